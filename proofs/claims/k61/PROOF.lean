import PyProof.Rows.All
import Wide.All
import OpenK.AllK
import Wide.FinOn
import PySem.Challenge.RW_lanescounted_k61_schemes_within
import HandS.ForMost
import HandS.ForExc
import HandS.Wide
import HandS.IsInst
import HandS.EndBits
import HandS.Small
import HandS.FStr
import HandS.Gcd
import HandS.Strs
import HandS.SetFor
import HandS.ExcIs
import HandS.TryMany
import HandS.Style
import HandS.TupAny
import HandS.Zip
import HandS.TupMul
import HandS.Conv
import KE.DataFind
import KE.DataMinMax
import KE.SortData
import HandS.Deep
import KE.DataCmp
import HandS.SetBool
import HandS.SetFor
import HandS.Strs
import HandS.SortKw
import HandS.Star
import KE.GoesEnum
set_option Elab.async false
set_option linter.all false
set_option maxRecDepth 100000
set_option maxHeartbeats 4000000
namespace Lc
open PySem PySem.Spec PyProof.Rows L2
/-! ### great ints -/
/-- two factors of together less than a hundred million bits -/
def CMulX (i j : Int) : Prop := i.natAbs.log2 + j.natAbs.log2 < 100000000
theorem intBits_le (x : Int) : Builtin.Int.intBits x ≤ x.natAbs.log2 + 1 := by
  unfold Builtin.Int.intBits; split <;> omega
theorem CMulX.ok {i j : Int} (h : CMulX i j) : IntMulOk i j := by
  have a := intBits_le i
  have b := intBits_le j
  unfold CMulX at h
  intro z
  have y := (Bool.and_eq_true _ _ ▸ z).2
  unfold Builtin.Int.intTooBig at y
  have x := of_decide_eq_true y
  have l : bitsLine = 134217728 := by decide
  omega
theorem op_mulX {X : Cx} : OpR X (binaryOp .Mult) (rI CMulX fun i j => .int (i * j)) := opI fun _ _ _ _ _ _ _ hc q => mul_int q hc.ok
/-- few bits -/
def Few (i : Int) : Prop := i.natAbs.log2 ≤ 2000000
theorem few_of {i : Int} (h : i.natAbs < 2 ^ 240) : Few i := by
  have := PySem.Flt.log2_lt_of (n := i.natAbs) (k := 240) (by omega) h
  unfold Few; omega
theorem few_le {i : Int} {b : Int} (h0 : 0 ≤ i) (h : i ≤ b) (hb : b.natAbs < 2 ^ 240) : Few i := few_of (Nat.lt_of_le_of_lt (by omega) hb)
theorem mulX {i j : Int} (h : Few i) (h' : Few j) : CMulX i j := by unfold CMulX; unfold Few at h h'; omega
theorem divX {i j : Int} (h : 0 < j) (hb : j.natAbs < 2 ^ 240) : CDivW i j := wide_div (b := 240) h hb (by decide) (by decide)
theorem log2_mono {a b : Nat} (h : a ≤ b) : a.log2 ≤ b.log2 := by
  rcases Nat.eq_zero_or_pos a with h0 | h0
  · subst h0; simp
  · have hb : b ≠ 0 := by omega
    have h1 : 2 ^ a.log2 ≤ a := Nat.log2_self_le (by omega)
    exact (Nat.le_log2 hb).mpr (by omega)
theorem bits_log {z : Int} (h : Builtin.Int.intBits z ≤ 1048576) : z.natAbs.log2 ≤ 1048576 := by
  unfold Builtin.Int.intBits at h
  split at h
  · rename_i h0; simp_all
  · omega
/-! ### heaps -/
/-- all that was tracked, but for a, is as it was -/
def But (a : Addr) (H H' : Hp) : Prop := ∀ b o, b ≠ a → H b = some o → H' b = some o
theorem But.refl (a : Addr) (H : Hp) : But a H H := fun _ _ _ h => h
theorem But.trans {a : Addr} {H H1 H2 : Hp} (x : But a H H1) (y : But a H1 H2) : But a H H2 := fun b o n h => y b o n (x b o n h)
theorem But.same {a : Addr} {H H1 H2 : Hp} (x : But a H H1) (y : Same H1 H2) : But a H H2 := fun b o n h => y b o (x b o n h)
theorem Same.but {a : Addr} {H H1 : Hp} (y : Same H H1) : But a H H1 := fun b o _ h => y b o h
theorem But.new {a : Addr} {H H1 H2 : Hp} (y : Same H H1) (x : But a H1 H2) : But a H H2 := fun b o n h => x b o n (y b o h)
theorem same_upd {H : Hp} {p : Addr} {o : HO} (h : H p = none) : Same H (upd H p o) := fun b x e => by
  rw [upd_ne (ne_of_none e h)]
  exact e
theorem But.upd {a : Addr} {H H' : Hp} {o : HO} (x : But a H H') : But a H (upd H' a o) := fun b u n h => by
  rw [upd_ne n]
  exact x b u n h
/-! ### statements joined behind an if -/
theorem seq_cut {t u : TS} {D : Ends} {σ : L2.St} {H : Hp} (M : L2.St → Hp → Prop) (h2 : ∀ σ' H', M σ' H' → u D σ' H') (h1 : (∀ σ' H', M σ' H' → u D σ' H') → t { D with nx := u D } σ H) : tSeq t u D σ H := h1 h2
theorem if_cut {c : TT} {t1 t2 u : TS} {D : Ends} {σ : L2.St} {H : Hp} (M : L2.St → Hp → Prop) (h2 : ∀ σ' H', M σ' H' → u D σ' H') (h1 : (∀ σ' H', M σ' H' → u D σ' H') → tIfS c t1 t2 { D with nx := u D } σ H) : tSeq (tIfS c t1 t2) u D σ H := h1 h2
/-! ### the source of draws -/
structure Src (H : Hp) (a : Addr) (n : Nat) : Prop where
  ex : ∃ (l : Addr) (ns : List Int) (x y z : Int), H a = some (.lst [.ref l, .int x, .int y, .int z]) ∧ H l = some (.lst (ns.map V.int)) ∧ (∀ k ∈ ns, k.natAbs.log2 ≤ 1048576) ∧ ns.length ≤ 63 ∧
    0 ≤ x ∧ x.natAbs.log2 ≤ 1048576 ∧ 0 ≤ y ∧ y < 2147483647 ∧ 0 ≤ z ∧ z ≤ (n : Int)
def spDraw : Sp := fun vs H Q _ => ∃ (a : Addr) (n : Nat) (lim : Int), vs = [.ref a, .int lim] ∧ Src H a n ∧ n < 1000000 ∧ 1 ≤ lim ∧ lim ≤ 1000000000000 ∧
  ∀ d H', 0 ≤ d → d < lim → Src H' a (n + 1) → But a H H' → Q (.int d) H'
def spSource (K : PySem.W.Frag) : Sp := fun vs H Q _ => ∃ (a : Addr) (ns : List Int), vs = [.ref a] ∧ SqL K H a (ns.map V.int) ∧ ns.length ≤ 63 ∧ (∀ z ∈ ns, Builtin.Int.intBits z ≤ 1048576) ∧
  ∀ p H', H p = none → Src H' p 0 → Same H H' → Q (.ref p) H'
def spGreat : Sp := fun vs H Q _ => ∃ (a : Addr) (n : Nat) (lim : Int), vs = [.ref a, .int lim] ∧ Src H a n ∧ n + 5 < 1000000 ∧ 1 ≤ lim ∧ lim ≤ 10 ^ 60 ∧
  ∀ d H', 0 ≤ d → d < lim → Src H' a (n + 5) → But a H H' → Q (.int d) H'
/-- what is behind the first if of a draw -/
structure Mid (H0 : Hp) (a : Addr) (n : Nat) (H : Hp) : Prop where
  src : Src H a n
  but : But a H0 H
theorem src_ne {H : Hp} {a b : Addr} {n : Nat} (S : Src H a n) (h : H b = none) : b ≠ a := by
  obtain ⟨l, ns, x, y, z, h1, _⟩ := S.ex
  intro e; subst e; rw [h] at h1; cases h1
theorem Src.le {H : Hp} {a : Addr} {n m : Nat} (S : Src H a n) (h : n ≤ m) : Src H a m := by
  obtain ⟨l, ns, x, y, z, h1, h2, h3, h4, h5, h6, h7, h8, h9, h10⟩ := S.ex
  exact ⟨l, ns, x, y, z, h1, h2, h3, h4, h5, h6, h7, h8, h9, by omega⟩
theorem Src.same {H H' : Hp} {a : Addr} {n : Nat} (S : Src H a n) (k : Same H H') : Src H' a n := by
  obtain ⟨l, ns, x, y, z, h1, h2, h3⟩ := S.ex
  exact ⟨l, ns, x, y, z, k _ _ h1, k _ _ h2, h3⟩
theorem cut1 (l : List V) : cutV l (some 1) none = l.drop 1 := by
  have e1 : HT.sIx l.length 0 (some 1) = min 1 l.length := HT.sIx_nat l.length 0 1
  have e2 : HT.sIx l.length l.length none = l.length := HT.sIx_none ..
  show ((l.drop (HT.sIx l.length 0 (some 1))).take (HT.sIx l.length l.length none - HT.sIx l.length 0 (some 1))) = l.drop 1
  rw [e1, e2]
  match l with
  | [] => rfl
  | a :: r =>
    have e3 : min 1 (a :: r).length = 1 := Nat.min_eq_left (by simp)
    rw [e3]
    exact List.take_of_length_le (by simp)
theorem idiv_log {x j : Int} (h0 : 0 ≤ x) (hj : 1 ≤ j) {k : Nat} (h : x.natAbs.log2 ≤ k) : (x / j).natAbs.log2 ≤ k := by
  have h1 : 0 ≤ x / j := Int.ediv_nonneg h0 (by omega)
  have h2 : x / j ≤ x := Int.ediv_le_self j h0
  have h3 : (x / j).natAbs ≤ x.natAbs := by omega
  exact Nat.le_trans (log2_mono h3) h
def pw9 : Nat → Int
  | 0 => 1
  | n + 1 => pw9 n * 1000000000
theorem pw9_le {i : Nat} (h : i ≤ 5) : pw9 i ≤ 1000000000000000000000000000000000000000000000 := by
  match i, h with
  | 0, _ => decide
  | 1, _ => decide
  | 2, _ => decide
  | 3, _ => decide
  | 4, _ => decide
  | 5, _ => decide
theorem few_bits {k : Int} (h : k.natAbs.log2 ≤ 1048576) : Few k := by unfold Few; omega
theorem ends_true {Q : VK} {b : Bool} {H : Hp} (q : ∀ H', Q (.bl true) H') (h : b = true) : Q (.bl b) H := h ▸ q H
/-! ### rules with the written part by its name (within a comprehension) -/
theorem ixL {X : Cx} (K : PySem.W.Frag) (h : X.K = K := by rfl) : IxR X (rIxL K) := h ▸ ix_list
theorem ixT {X : Cx} (K : PySem.W.Frag) (h : X.K = K := by rfl) : IxR X (rIxT K) := h ▸ ix_tup
/-! ### what an object is -/
inductive Arg (K : PySem.W.Frag) (H : Hp) : V → String → Prop where
  | non : Arg K H .non "NoneType"
  | bl (b : Bool) : Arg K H (.bl b) "bool"
  | int (i : Int) : Arg K H (.int i) "int"
  | str (x : Str) : Arg K H (.str x) "str"
  | lst {a : Addr} {xs : List V} (e : H a = some (.lst xs)) : Arg K H (.ref a) "list"
  | tup {a : Addr} {xs : List V} (e : H a = some (.tup xs)) : Arg K H (.ref a) "tuple"
  | dK {a : Addr} {kvs : List (Key × V)} (e : H a = some (.dK kvs)) : Arg K H (.ref a) "dict"
  | ftup {a : Addr} {o : Obj} {xs : List V} (e : H a = some (.frz o (.tup xs))) : Arg K H (.ref a) "tuple"
def isI : V → Bool
  | .int _ => true | .bl _ => true | _ => false
def isB : V → Bool
  | .bl _ => true | _ => false
def isS : V → Bool
  | .str _ => true | _ => false
section
variable {K : PySem.W.Frag} {H : Hp} {x : V} {n : String}
theorem Arg.ty (h : Arg K H x n) : TyX K H x (.type n) := by
  cases h with
  | non => exact .base .non
  | bl b => exact .base (.bl b)
  | int i => exact .base (.int i)
  | str s => exact .base (.str s)
  | lst e => exact .base (.lst e)
  | tup e => exact .base (.tup e)
  | dK e => exact .base (.dK e)
  | ftup e => exact .fTuple e
theorem Arg.int? (h : Arg K H x n) : PySem.W.kitOne K (.type n) (.type "int") = some (isI x) := by
  cases h <;> first | exact kit_ty (r := true) (by decide +kernel) | exact kit_ty (r := false) (by decide +kernel)
theorem Arg.bool? (h : Arg K H x n) : PySem.W.kitOne K (.type n) (.type "bool") = some (isB x) := by
  cases h <;> first | exact kit_ty (r := true) (by decide +kernel) | exact kit_ty (r := false) (by decide +kernel)
theorem Arg.str? (h : Arg K H x n) : PySem.W.kitOne K (.type n) (.type "str") = some (isS x) := by
  cases h <;> first | exact kit_ty (r := true) (by decide +kernel) | exact kit_ty (r := false) (by decide +kernel)
end
/-- an integer from lo to hi, no bool -/
def wholeV (x : V) (lo hi : Int) : Bool := match x with
  | .int i => decide (lo ≤ i) && decide (i ≤ hi)
  | _ => false
def wordV (x : V) (ws : List Str) : Bool := match x with
  | .str s => decide (s ∈ ws)
  | _ => false
theorem inV_str (s : Str) (ws : List Str) : inV (.str s) (ws.map V.str) = decide (s ∈ ws) := by
  unfold inV
  induction ws with
  | nil => rfl
  | cons w r ih =>
    rw [List.map_cons, List.any_cons, ih]
    show ((w == s) || decide (s ∈ r)) = decide (s ∈ w :: r)
    by_cases e : w = s
    · subst e; simp
    · have e2 : (w == s) = false := beq_eq_false_iff_ne.mpr e
      have e3 : ¬ s = w := fun z => e z.symm
      rw [e2, Bool.false_or]
      simp [e3]
theorem all_flat_str (ws : List Str) : (ws.map V.str).all flatV = true := by
  induction ws with
  | nil => rfl
  | cons w r ih => rw [List.map_cons, List.all_cons, ih]; rfl
theorem atI_two {α : Type} {x y : α} {d : Int} (h0 : 0 ≤ d) (h1 : d < 2) : atI [x, y] d = some (if d = 0 then x else y) := by
  have h : d = 0 ∨ d = 1 := by omega
  rcases h with rfl | rfl <;> rfl
theorem atI_three {α : Type} {x y z : α} {d : Int} (h0 : 0 ≤ d) (h1 : d < 3) : atI [x, y, z] d = some (if d = 0 then x else if d = 1 then y else z) := by
  have h : d = 0 ∨ d = 1 ∨ d = 2 := by omega
  rcases h with rfl | rfl | rfl <;> rfl
def spWhole (K : PySem.W.Frag) : Sp := fun vs H Q _ => ∃ (x : V) (lo hi : Int) (n : String), vs = [x, .int lo, .int hi] ∧ Arg K H x n ∧ Q (.bl (wholeV x lo hi)) H
def spWord (K : PySem.W.Frag) : Sp := fun vs H Q _ => ∃ (x : V) (t : Addr) (ws : List Str) (n : String), vs = [x, .ref t] ∧ SqT K H t (ws.map V.str) ∧ Arg K H x n ∧ Q (.bl (wordV x ws)) H
def spIsInt (K : PySem.W.Frag) : Sp := fun vs H Q _ => ∃ (x : V) (n : String), vs = [x] ∧ Arg K H x n ∧ Q (.bl (isI x && !isB x)) H
/-- what a def hands back or raises, nothing written -/
def spRes (exc : String → Addr) (r : Except String V) (H : Hp) (Q : VK) (E : XK) : Prop := match r with
  | .ok v => Q v H
  | .error n => E (.ref (exc n)) none H
theorem ite_of {c : Prop} [Decidable c] {α : Type} {a b : α} (h : c) : (if c then a else b) = a := if_pos h
/-! ### tables: what its defs hand back or raise -/
def kindV (x : V) : Bool := wordV x ["rest", "ranges"]
def laneAt (k : V) (c m s : Int) : Int := if k = .str "rest" then m % c else m * c / s
def laneOf (k c m s : V) : Except String V :=
  if kindV k = false then .error "BadKind" else if wholeV c 1 (10 ^ 20) = false then .error "BadCount" else if wholeV m 0 (10 ^ 40) = false then .error "BadMark" else
  if wholeV s 1 (10 ^ 40) = false then .error "BadSize" else match c, m, s with
    | .int c, .int m, .int s => if s ≤ m then .error "BadMark" else .ok (.int (laneAt k c m s))
    | _, _, _ => .ok .non
def spChk (K : PySem.W.Frag) (exc : String → Addr) (good : V → Bool) (n : String) : Sp := fun vs H Q E => ∃ (x : V) (tn : String), vs = [x] ∧ Arg K H x tn ∧ spRes exc (if good x = false then .error n else .ok .non) H Q E
def spChkC (K : PySem.W.Frag) (exc : String → Addr) : Sp := fun vs H Q E => ∃ (x : V) (g : Int) (tn : String), vs = [x, .int g] ∧ (g = 10 ^ 20 ∨ g = 1000) ∧ Arg K H x tn ∧ spRes exc (if wholeV x 1 g = false then .error "BadCount" else .ok .non) H Q E
def spLaneAt : Sp := fun vs H Q _ => ∃ (k : Str) (c m s : Int), vs = [.str k, .int c, .int m, .int s] ∧ 1 ≤ c ∧ c ≤ 10 ^ 20 ∧ 0 ≤ m ∧ m < s ∧ s ≤ 10 ^ 40 ∧ Q (.int (laneAt (.str k) c m s)) H
def spLaneOf (K : PySem.W.Frag) (exc : String → Addr) : Sp := fun vs H Q E => ∃ (k c m s : V) (tk tc tm ts : String), vs = [k, c, m, s] ∧ Arg K H k tk ∧ Arg K H c tc ∧ Arg K H m tm ∧ Arg K H s ts ∧ spRes exc (laneOf k c m s) H Q E
theorem whole_int {x : V} {lo hi : Int} (h : wholeV x lo hi = true) : ∃ i, x = .int i ∧ lo ≤ i ∧ i ≤ hi := by
  cases x with
  | int i =>
    have h2 : (decide (lo ≤ i) && decide (i ≤ hi)) = true := h
    rw [Bool.and_eq_true] at h2
    exact ⟨i, rfl, of_decide_eq_true h2.1, of_decide_eq_true h2.2⟩
  | _ => exact nomatch h
theorem word_str {x : V} {ws : List Str} (h : wordV x ws = true) : ∃ s, x = .str s ∧ s ∈ ws := by
  cases x with
  | str s => exact ⟨s, rfl, of_decide_eq_true h⟩
  | _ => exact nomatch h
theorem whole_of {i lo hi : Int} (h : lo ≤ i) (h' : i ≤ hi) : wholeV (.int i) lo hi = true := by
  show (decide (lo ≤ i) && decide (i ≤ hi)) = true
  rw [decide_eq_true h, decide_eq_true h']; rfl
theorem fmt20 : (toString ((10 : Int) ^ 20) : Str).length = 21 := by decide +kernel
/-! ### lcm, and ranges of any ints -/
def rLcm : List V → Hp → VK → Prop := fun vs H Q => ∃ a b : Nat, vs = [.int (a : Int), .int (b : Int)] ∧ a < 10 ^ 40 ∧ b < 10 ^ 40 ∧ 0 < a ∧ Q (.int ((Nat.lcm a b : Nat) : Int)) H
theorem cr_lcm {X : Cx} : CallR X (.builtin "math.lcm") rLcm := by
  intro pins s σ H vs us Q I r h
  obtain ⟨a, b, rfl, ha, hb, h0, q⟩ := h
  obtain ⟨t, u, rfl⟩ := Vals.int2 r
  have la : (max 1 ((a : Int).natAbs)).log2 ≤ 199 := PySem.W.mg_log (Nat.lt_of_lt_of_le (by rw [Int.natAbs_natCast]; omega : max 1 ((a : Int).natAbs) < 10 ^ 40) (by decide))
  have lb : (max ((a : Int).natAbs) ((b : Int).natAbs)).log2 ≤ 199 := PySem.W.mg_log (Nat.lt_of_lt_of_le (by rw [Int.natAbs_natCast, Int.natAbs_natCast]; omega : max ((a : Int).natAbs) ((b : Int).natAbs) < 10 ^ 40) (by decide))
  have e : ((Nat.lcm 1 ((a : Int).natAbs)).lcm ((b : Int).natAbs) : Nat) = Nat.lcm a b := by rw [Int.natAbs_natCast, Int.natAbs_natCast, Nat.lcm_one_left]
  have ls : (((((Nat.lcm 1 ((a : Int).natAbs)).lcm ((b : Int).natAbs) : Nat)) : Int)).natAbs.log2 < bitsLine := by
    rw [e, Int.natAbs_natCast]
    have h1 : Nat.lcm a b ≤ a * b := by
      unfold Nat.lcm; exact Nat.div_le_self _ _
    have h2 : a * b ≤ 10 ^ 40 * 10 ^ 40 := Nat.mul_le_mul (Nat.le_of_lt ha) (Nat.le_of_lt hb)
    have h3 : (Nat.lcm a b).log2 ≤ 399 := PySem.W.mg_log (Nat.lt_of_le_of_lt (Nat.le_trans h1 h2) (by decide))
    exact Nat.lt_of_le_of_lt h3 (by decide)
  exact PySem.call_function_meets PySem.W.MGF.kind_lcm PySem.W.MGF.plain_lcm PySem.W.MGF.entry_lcm (PySem.W.MGF.args_lcm _ _) (PySem.W.mg_run_lcm _ t _ u (by omega) (by omega) ls).meets ⟨.int _, H, I.tok _, ⟨_, rfl⟩, (by rw [e]; exact q)⟩
theorem turn_long {P : Program} {w : World} {K : PySem.W.Frag} {tg : Expr} (c : Addr) (lo : Int) (n : Nat) : Turn P w K tg (Itr lo n) [c] c (fun i h => IsLongIter h c (lo + (i : Nat) * 1) ((n : Int) - (i : Nat)) 1) := by
  refine { mem := List.mem_singleton.mpr rfl, obj := ?o, keep := ?k, item := ?i, done := ?d, self := ?s }
  case o =>
    intro i h hc b hb
    cases List.mem_singleton.mp hb
    exact ⟨_, hc, fun v (z : Data.fields _ = Data.cell v) => nomatch z⟩
  case k => exact fun i h h' hc k => k c (List.mem_singleton.mpr rfl) _ hc
  case i =>
    rintro X rfl rfl rfl hh i pins s σ H E I hf hc hg
    have hq := hf c (List.mem_singleton.mpr rfl)
    obtain ⟨q0, q1, q2, q3, q4, q5⟩ := hq
    refine (Walks.longrange (prog := X.prog) (w := X.w) (I.ok.hd hh) c lo 1 n).item i s _ _ hg hc fun v h' tk hv hc' hk => ?_
    obtain ⟨t, rfl⟩ := hv
    have J : Inv X pins σ H { s with heap := h', toks := tk } := I.turned (fun b o hb e => hk b o (fun z => hb (List.mem_singleton.mp z)) e) q0 q1 q3 q4 q5
    exact ⟨_, rfl, go_of (s := { s with heap := h', toks := tk }) (n := "longrange_iterator") hc' rfl rfl (by decide) ⟨.int (lo + i), H, J, ⟨t, by rw [Int.mul_one]⟩, ⟨rfl, rfl⟩, hc', fun b hb => (hf b hb).1⟩⟩
  case d =>
    rintro X rfl rfl rfl hh i pins s σ H E I hf hc hg
    obtain ⟨q0, q1, q2, q3, q4, q5⟩ := hf c (List.mem_singleton.mpr rfl)
    have hni : n ≤ i := hg
    exact wpAny_pyNext_long_end (I.ok.hd hh) hc (by omega) fun h' k => ⟨rfl, I.turned (t' := s.toks) (fun b o hb e => k b o hb e) q0 q1 q3 q4 q5⟩
  case s => exact fun _ _ _ _ _ hc h => wpAny_pyIter_longiter hc h
theorem any_range {X : Cx} {tg : Expr} {pins : List (Addr × Obj)} {σ : L2.St} {H : Hp} {s : Shared} {R : It → Hp → Prop} {E : Value → Shared → Prop} {lo hi : Int} {t u v : Tok} {tk : Nat} (I : Inv X pins σ H s) (q : R (Itr lo (hi - lo).toNat) H) :
    wpAny (model X.prog X.w) X.A (pyIter (.ref s.heap.objs.size)) (PIE X pins σ tg R) E { s with heap := s.heap.push { cls := .type "range", data := .fields #[.int lo t, .int hi u, .int 1 v] }, toks := tk } := by
  have J : Inv X pins σ H { s with heap := s.heap.push { cls := .type "range", data := .fields #[.int lo t, .int hi u, .int 1 v] }, toks := tk } := I.kept fun b o e => Heap.get?_push_of_some _ e
  have ez : lo + ((0 : Nat) : Int) * 1 = lo := by omega
  have en : (((hi - lo).toNat : Nat) : Int) - ((0 : Nat) : Int) = Builtin.Range.rangeSize lo hi 1 := by
    rw [rangeSize_one]; split <;> omega
  cases hsm : Builtin.Range.small lo hi 1 with
  | true =>
    refine wpAny_pyIter_range (IsRange.new ..) hsm ?_
    refine ⟨_, [_], _, _, H, rfl, J.kept (t' := tk) fun b o e => Heap.get?_push_of_some _ e, turn_range _ lo (hi - lo).toNat, ?_, fun b hb => ?_, q⟩
    · show IsRangeIter _ _ (lo + ((0 : Nat) : Int) * 1) ((((hi - lo).toNat : Nat) : Int) - ((0 : Nat) : Int)) 1
      rw [ez, en]; exact Heap.get?_push_size _ rfl
    · cases List.mem_singleton.mp hb
      exact J.fpOk (Nat.le_refl _) (J.hok.fresh (Nat.le_refl _))
  | false =>
    refine wpAny_pyIter_longrange (IsRange.new ..) hsm ?_
    refine ⟨_, [_], _, _, H, rfl, J.kept (t' := tk) fun b o e => Heap.get?_push_of_some _ e, turn_long _ lo (hi - lo).toNat, ?_, fun b hb => ?_, q⟩
    · show IsLongIter _ _ (lo + ((0 : Nat) : Int) * 1) ((((hi - lo).toNat : Nat) : Int) - ((0 : Nat) : Int)) 1
      rw [ez, en]; exact Heap.get?_push_size _ rfl
    · cases List.mem_singleton.mp hb
      exact J.fpOk (Nat.le_refl _) (J.hok.fresh (Nat.le_refl _))
def iRngA (ta : TA) : TI := fun σ H R => ta σ H fun vs H1 => ∃ i j : Int, vs = [.int i, .int j] ∧ R (Itr i (j - i).toNat) H1
theorem pi_rangeA {X : Cx} {tg a b : Expr} {ta : TA} {p pos : Pos} (hg : Gl X "range") (hm : X.mg "range" = none) (ha : PA X [a, b] ta) (hs : starEach [a, b] X.env = [(false, eval a X.env), (false, eval b X.env)] := by rfl) (hs2 : starEach [b] X.env = [(false, eval b X.env)] := by rfl) :
    PI X tg (.Call (.Name "range" p) [a, b] [] pos) (iRngA ta) := by
  refine ⟨fun pins s σ H R I h => Call_ (ld_blt I hg hm boot_range (PyProof.Rows.callWith_type1 (thn (ha.run pos pins s σ H _ I h) fun us s1 hh => ?_) (by rw [hs, hs2]) (by rw [hs2]; rfl)))⟩
  obtain ⟨vs, H1, J, r1, i, j, e, q⟩ := hh
  subst e
  obtain ⟨t, t', rfl⟩ := Vals.int2 r1
  exact call_range_2 (any_range J q)
/-! ### marks that move -/
def lstart (l c s : Int) : Int := (l * s + c - 1) / c
def lcmI (a b : Int) : Int := ((Nat.lcm a.toNat b.toNat : Nat) : Int)
def keptRest (low high size : Int) : Int := size / lcmI low high * low + (if low < size % lcmI low high then low else size % lcmI low high)
def gapI (high low size : Int) (l : Int) : Int := if lstart (l + 1) high size - lstart l low size > 0 then lstart (l + 1) high size - lstart l low size else 0
def keptR (high low size : Int) : Nat → Int
  | 0 => 0
  | n + 1 => keptR high low size n + gapI high low size (n : Int)
inductive FirstR (low high size : Int) : V → Prop where
  | at (l : Int) (h1 : 1 ≤ l) (h2 : l ≤ low) (h3 : lstart l high size < lstart l low size) (h4 : ∀ j, 1 ≤ j → j < l → lstart j low size ≤ lstart j high size) : FirstR low high size (.int (lstart l high size))
  | no (h : ∀ j, 1 ≤ j → j ≤ low → lstart j low size ≤ lstart j high size) : FirstR low high size .non
def lowI (b a : Int) : Int := if a < b then a else b
def highI (b a : Int) : Int := if a > b then a else b
def countM (k : Str) (b a s : Int) : Int := if V.str k = .str "rest" then s - keptRest (lowI b a) (highI b a) s else s - keptR (highI b a) (lowI b a) s (lowI b a).toNat
def FirstM (k : Str) (b a s : Int) (r : V) : Prop := if V.str k = .str "ranges" then FirstR (lowI b a) (highI b a) s r else
  r = (if lowI b a < (if s < highI b a then s else highI b a) then .int (lowI b a) else .non)
def mostOf (k : V) : Int := if k = .str "rest" then 10 ^ 20 else 1000
def chkM (k b a s : V) : Option String :=
  if kindV k = false then some "BadKind" else if wholeV b 1 (mostOf k) = false then some "BadCount" else if wholeV a 1 (mostOf k) = false then some "BadCount" else if wholeV s 1 (10 ^ 40) = false then some "BadSize" else none
structure Mvd (ks : Str) (b a s : Int) : Prop where
  k : kindV (.str ks) = true
  b1 : 1 ≤ b
  b2 : b ≤ mostOf (.str ks)
  a1 : 1 ≤ a
  a2 : a ≤ mostOf (.str ks)
  s1 : 1 ≤ s
  s2 : s ≤ 10 ^ 40
theorem chkM_none {k b a s : V} (h : chkM k b a s = none) : ∃ ks bi ai si, k = .str ks ∧ b = .int bi ∧ a = .int ai ∧ s = .int si ∧ Mvd ks bi ai si := by
  unfold chkM at h
  cases e1 : kindV k with
  | false => rw [if_pos e1] at h; cases h
  | true =>
  rw [if_neg (by rw [e1]; decide)] at h
  cases e2 : wholeV b 1 (mostOf k) with
  | false => rw [if_pos e2] at h; cases h
  | true =>
  rw [if_neg (by rw [e2]; decide)] at h
  cases e3 : wholeV a 1 (mostOf k) with
  | false => rw [if_pos e3] at h; cases h
  | true =>
  rw [if_neg (by rw [e3]; decide)] at h
  cases e4 : wholeV s 1 (10 ^ 40) with
  | false => rw [if_pos e4] at h; cases h
  | true =>
  obtain ⟨bi, rfl, b1, b2⟩ := whole_int e2
  obtain ⟨ai, rfl, a1, a2⟩ := whole_int e3
  obtain ⟨si, rfl, s1, s2⟩ := whole_int e4
  obtain ⟨ks, rfl, _⟩ := word_str e1
  exact ⟨ks, bi, ai, si, rfl, rfl, rfl, rfl, e1, b1, b2, a1, a2, s1, s2⟩
theorem chkM_ok {ks : Str} {b a s : Int} (h : Mvd ks b a s) : chkM (.str ks) (.int b) (.int a) (.int s) = none := by
  unfold chkM
  rw [if_neg (by rw [h.k]; decide), if_neg (by rw [whole_of h.b1 h.b2]; decide), if_neg (by rw [whole_of h.a1 h.a2]; decide), if_neg (by rw [whole_of h.s1 h.s2]; decide)]
/-- one who asks: the error, or what comes of good ones -/
def spAskM (K : PySem.W.Frag) (exc : String → Addr) (G : Str → Int → Int → Int → V → Prop) : Sp := fun vs H Q E => ∃ (k b a s : V) (tk tb ta ts : String), vs = [k, b, a, s] ∧ Arg K H k tk ∧ Arg K H b tb ∧ Arg K H a ta ∧ Arg K H s ts ∧
  (∀ n, chkM k b a s = some n → E (.ref (exc n)) none H) ∧ (∀ ks bi ai si, k = .str ks → b = .int bi → a = .int ai → s = .int si → Mvd ks bi ai si → ∀ r, G ks bi ai si r → Q r H)
def spLstart : Sp := fun vs H Q _ => ∃ l c s : Int, vs = [.int l, .int c, .int s] ∧ 0 ≤ l ∧ l ≤ 2000 ∧ 1 ≤ c ∧ c ≤ 1000 ∧ 1 ≤ s ∧ s ≤ 10 ^ 40 ∧ Q (.int (lstart l c s)) H
def spKeptRest : Sp := fun vs H Q _ => ∃ l h s : Int, vs = [.int l, .int h, .int s] ∧ 1 ≤ l ∧ l ≤ 10 ^ 20 ∧ 1 ≤ h ∧ h ≤ 10 ^ 20 ∧ 1 ≤ s ∧ s ≤ 10 ^ 40 ∧ Q (.int (keptRest l h s)) H
def spKeptRanges : Sp := fun vs H Q _ => ∃ l h s : Int, vs = [.int l, .int h, .int s] ∧ 1 ≤ l ∧ l ≤ 1000 ∧ 1 ≤ h ∧ h ≤ 1000 ∧ 1 ≤ s ∧ s ≤ 10 ^ 40 ∧ Q (.int (keptR h l s l.toNat)) H
def spFirstRanges : Sp := fun vs H Q _ => ∃ l h s : Int, vs = [.int l, .int h, .int s] ∧ 1 ≤ l ∧ l ≤ 1000 ∧ 1 ≤ h ∧ h ≤ 1000 ∧ 1 ≤ s ∧ s ≤ 10 ^ 40 ∧ ∀ r, FirstR l h s r → Q r H
theorem lcmI_pos {a b : Int} (ha : 1 ≤ a) (hb : 1 ≤ b) : 1 ≤ lcmI a b := by
  unfold lcmI
  have : 0 < Nat.lcm a.toNat b.toNat := Nat.lcm_pos (by omega) (by omega)
  omega
theorem lcmI_le {a b : Int} (ha : 1 ≤ a) (hb : 1 ≤ b) (ha2 : a ≤ 10 ^ 20) (hb2 : b ≤ 10 ^ 20) : lcmI a b ≤ 10 ^ 40 := by
  unfold lcmI
  have h1 : Nat.lcm a.toNat b.toNat ≤ a.toNat * b.toNat := by
    unfold Nat.lcm; exact Nat.div_le_self _ _
  have h2 : a.toNat * b.toNat ≤ 10 ^ 20 * 10 ^ 20 := Nat.mul_le_mul (by omega) (by omega)
  have h3 : (10 : Nat) ^ 20 * 10 ^ 20 = 10 ^ 40 := by decide
  omega
theorem most_cases {ks : Str} (h : kindV (.str ks) = true) : (V.str ks = .str "rest" ∧ mostOf (.str ks) = 10 ^ 20) ∨ (V.str ks = .str "ranges" ∧ ¬ V.str ks = .str "rest" ∧ mostOf (.str ks) = 1000) := by
  obtain ⟨s, e, hs⟩ := word_str h
  cases e
  rcases List.mem_cons.mp hs with rfl | hs
  · exact .inl ⟨rfl, rfl⟩
  · rcases List.mem_cons.mp hs with rfl | hs
    · exact .inr ⟨rfl, by decide, rfl⟩
    · exact nomatch hs
/-! ### errors caught -/
theorem exm_pair {K : PySem.W.Frag} {A B : Addr} {b : Bool} (p : PySem.W.subIn K (.ref B) (.type "BaseException") = some true) (i : PySem.W.isClsIn K B = true) (t : PySem.W.typeIn K (.ref B) = some (.type "type")) (q : PySem.W.subIn K (.ref A) (.ref B) = some b) :
    PySem.W.exmOne K (.ref A) (.ref B) = some b := by
  have i' : (PySem.W.clsIn K B).isSome = true := i
  unfold PySem.W.exmOne PySem.W.kitCls
  rw [p]
  dsimp only
  rw [i', t]
  exact q
theorem kit_ve {K : PySem.W.Frag} {A : Addr} {b : Bool} (q : PySem.W.subIn K (.ref A) (.type "ValueError") = some b) : PySem.W.kitOne K (.ref A) (.type "ValueError") = some b := by
  have m : PySem.W.kitMeta "ValueError" = true := by decide +kernel
  unfold PySem.W.kitOne PySem.W.kitCls
  dsimp only
  rw [m]
  exact q
/-- isinstance of the error that a suite holds -/
def rIsG (K : PySem.W.Frag) (a : Addr) (cls : Value) (d : Option Addr) : List V → Hp → VK → Prop := fun xs H Q => ∃ D, cls = .ref D ∧ d = none ∧ ExcC K D ∧ rIsE K D a xs H Q
theorem call_isG {X : Cx} {a : Addr} {oe : Obj} {cls : Value} {d : Option Addr} {pn : List (Addr × Obj)} (hz : Zc cls d oe) (hf : ∃ vs, oe.data = .fields vs) : CallR (X.suite a ((a, oe) :: pn)) (.builtin "isinstance") (rIsG X.K a cls d) := by
  intro pins s σ H xs us Q I r h
  obtain ⟨D, rfl, rfl, C, h⟩ := h
  exact call_isE C hz hf pins s σ H xs us Q I r h
end Lc
namespace LcS
open PySem PySem.Spec PyProof.Rows L2
section
variable {P : Program} {w : World} {A : Around} {E : Value → Shared → Prop} {s : Shared}
/-- a set just made -/
abbrev nul (w : World) : Obj := { cls := .type "set", dict := none, data := .set #[] 0 (.fresh 0 0 (!w.params.followText "set-order")) }
set_option maxHeartbeats 8000000 in
theorem set_of_list {l : Addr} {its : Array Value} (ns : List Int) {Q : Value → Shared → Prop} (hd : A.handled = none) (hl : s.heap.IsList l its) (ar : IntsAre its.toList ns) (room : ns.length + 1 < scanBound)
    (fin : ∀ (g : Heap) (tk c : Nat), SetR w g s.heap.objs.size (fun j => decide (j ∈ ns)) c → c ≤ ns.length → (∀ b o, s.heap.get? b = some o → g.get? b = some o) → Q (.ref s.heap.objs.size) { s with heap := g, toks := tk }) :
    wpAny (model P w) A (call (.type "set") [.ref l]) Q E s := by
  have size : its.size = ns.length := (Array.length_toList ▸ IntsAre.length ar)
  obtain ⟨mc, mt, mro⟩ := F.called_set.mro
  have made := F.called_set.made
  have sub := F.called_set.sub
  have notT := F.called_set.notType
  have can := F.called_set.canCreate
  have chk := F.typeCall_set_1 (.ref l)
  refine wpAny_call (codeAny_of_tree (show wpAny _ _ (callAny (.type "set") _) _ _ _ from wpAny_pure ⟨Code.quiet_builtin _ (by decide +kernel), codeAny_builtin F.entry_type_call ?_⟩))
  rw [Around.under_plain (weight_type_call_type "set" [.ref l] []) rfl]
  repeat (any_goals (first | assumption | wp_step))
  refine codeAny_mono (code_set_led1 (.ref l) (E := E) (Q₁ := fun v z => v = .ref s.heap.objs.size ∧ z = { s with heap := s.heap.push (nul w) }) ⟨rfl, rfl⟩) ?_
  rintro (x | fl) z hz
  · exact hz
  cases fl <;> try exact hz.elim
  rename_i v
  obtain ⟨rfl, rfl⟩ := hz
  have at0 : (s.heap.push (nul w)).get? s.heap.objs.size = some (nul w) := Heap.get?_push_size _ rfl
  have ty0 : Shared.TypeIs { s with heap := s.heap.push (nul w) } (.ref s.heap.objs.size) "set" := ⟨_, at0, rfl⟩
  have il := F.called_set.init.lookup
  have ib := F.called_set.init.bind (.ref s.heap.objs.size)
  repeat (any_goals (first | assumption | wp_step))
  refine codeAny_mono (codeAny_call_builtin (R := wants (fun r z => r = .none ∧ ∃ g tk c, z = { s with heap := g, toks := tk } ∧ SetR w g s.heap.objs.size (fun j => decide (j ∈ ns)) c ∧ c ≤ ns.length ∧ (∀ b o, s.heap.get? b = some o → g.get? b = some o)) E)
    F.called_set.init.plain F.entry_set_init (check_set_init_1 ty0 ?_)) ?_
  · obtain ⟨⟨oc, od, odata, osl⟩, hol, hcl, nl, hdl⟩ := hl
    simp only at hcl hdl
    subst hcl; subst hdl
    have at1 : (s.heap.push (nul w)).get? l = some { cls := .type "list", dict := od, data := .seq its nl, slots := osl } := Heap.get?_push_of_some _ hol
    have s1 := F.sub_list_set
    have s2 := F.sub_list_frozenset
    have nd : (Value.type "list" == Value.type "dict") = false := by decide
    have hl1 : (s.heap.push (nul w)).IsList l its := ⟨_, at1, rfl, nl, rfl⟩
    unfold Builtin.«set.__init__» noKeywords Builtin.Frozenset.updateFrom
    generalize eI : pyIter = PI
    wp_walk
    subst eI
    refine wpAny_pyIter_list hl1 (wpAny_bind (wpAny_runValue ?_))
    have ll : l < s.heap.objs.size := Heap.lt_size hol
    have sz : (s.heap.push (nul w)).objs.size = s.heap.objs.size + 1 := Heap.size_push ..
    have hd3 : A.in1.in1.in1.handled = none := by simp [hd]
    have lI : l ≠ (s.heap.push (nul w)).objs.size := fun e => by rw [e, sz] at ll; exact absurd ll (by exact fun z => Nat.lt_irrefl _ (Nat.lt_of_succ_lt z))
    have out : s.heap.objs.size ∉ [(s.heap.push (nul w)).objs.size, l] := by
      rw [sz]
      simp only [List.mem_cons, List.not_mem_nil, or_false, not_or]
      exact ⟨fun z => Nat.succ_ne_self _ z.symm, fun z => Nat.lt_irrefl _ (z ▸ ll)⟩
    have val : ∀ (i : Nat) (v : Value), its[i]? = some v → ∃ k t, ns[i]? = some k ∧ v = .int k t := fun i v hv => by
      have hi : i < ns.length := size ▸ (Array.getElem?_eq_some_iff.mp hv).1
      obtain ⟨t, rfl⟩ := PyProof.Rows.IntsAre.int_at ar i v (by rw [Array.getElem?_toList]; exact hv)
      exact ⟨ns[i], t, List.getElem?_eq_getElem hi, by rw [List.getD_eq_getElem?_getD, List.getElem?_eq_getElem hi] <;> rfl⟩
    refine set_update_ints ((Walks.list hd3 _ l lI its).toS) s.heap.objs.size out ns size room val (its.size - 0) 0 _ (by omega) (Nat.zero_le _) ⟨⟨_, Heap.get?_push_size _ rfl, rfl, rfl⟩, (hl1.push _)⟩ ?_ ?_
    · exact ⟨0, Nat.le_refl 0, setR_new_at (Heap.get?_push_of_some _ at0)⟩
    · rintro ⟨g, g2, d2, tk, os2⟩ c mv hc R
      have e1 : g2 = s.gens := mv.gens
      have e2 : d2 = s.drawn := mv.drawn
      have e3 : os2 = s.os := mv.os
      subst e1 e2 e3
      refine wpAny_pure (show wpAny _ _ (ret Value.none) _ _ _ from wpAny_pure ⟨rfl, g, tk, c, rfl, R, size ▸ hc, fun b o e => ?_⟩)
      have bl := Heap.lt_size e
      exact mv.heap b o (by rw [sz]; simp only [List.mem_cons, List.not_mem_nil, or_false, not_or]; exact ⟨fun z => Nat.lt_irrefl _ (z ▸ bl), fun z => Nat.lt_irrefl _ (Nat.lt_of_succ_lt (z ▸ bl))⟩) (Heap.get?_push_of_some _ (Heap.get?_push_of_some _ e))
  · rintro (x | fl) z hz
    · exact hz
    cases fl <;> try exact hz.elim
    obtain ⟨rfl, g, tk, c, rfl, R, hc, k⟩ := hz
    repeat (any_goals (first | assumption | wp_step))
    exact fin _ _ _ R hc k
end
/-- set(xs), xs a list of ints -/
def rSetL (K : PySem.W.Frag) (w : World) : List V → Hp → VK → Prop := fun xs H Q => ∃ (l : Addr) (ns : List Int), xs = [.ref l] ∧ SqL K H l (ns.map V.int) ∧ ns.length ≤ 2000 ∧
  ∀ p c, H p = none → c ≤ ns.length → Q (.ref p) (upd H p (SetO w p (fun j => decide (j ∈ ns)) c))
theorem cr_setL {X : Cx} (hc : X.calm = true) : CallR X (.type "set") (rSetL X.K X.w) := by
  intro pins s σ H xs us Q I r h
  obtain ⟨l, ns, rfl, hq, hn, q⟩ := h
  rw [Vals.ref1 r]
  obtain ⟨its, rv, pl, _⟩ := I.list hq
  refine set_of_list ns (I.ok.hd hc) pl.isList (by simpa using rv.ints) (by unfold scanBound; omega) fun g tk c R hcn k => ?_
  exact ⟨.ref _, _, I.laid (t' := tk) k (Nat.le_refl _) (setO_new R), rfl, q _ c (I.hok.fresh (Nat.le_refl _)) hcn⟩
end LcS
namespace LcC
open PySem PySem.Spec PyProof.Rows L2
/-! ### {e for a in xs .. for b in ys ..}, e an int -/
section
variable {pr : Program} {w : World} {A : Around} {R : Result → Shared → Prop} {s : Shared} {el ta ia tb ib : Expr} {ca cb : List Expr} {sc : Scope} {ps : Pos} {it D : Value} {v : Env}
abbrev two (el ta ia : Expr) (ca : List Expr) (tb ib : Expr) (cb : List Expr) (sc : Scope) (ps : Pos) : Expr := .SetComp el [⟨ta, ia, ca, 0⟩, ⟨tb, ib, cb, 0⟩] sc ps
/-- where an error goes -/
abbrev Out (pr : Program) (w : World) (A : Around) (v : Env) (R : Result → Shared → Prop) : Value → Shared → Prop := notedBy (model pr w) A v fun e z => R (.error e) z
/-- a step, with the errors of a turn -/
abbrev St1 {α : Type} (pr : Program) (w : World) (A : Around) (Z : Value → Shared → Prop) (t : Sem α) (s : Shared) (k : α → Shared → Prop) : Prop := wpAny (model pr w) A t k Z s
/-- one turn of a clause: its item, its store, its tests -/
def Turn (pr : Program) (w : World) (A : Around) (v : Env) (Z : Value → Shared → Prop) (tg : Expr) (cs : List Expr) (it : Value) (done next go : Shared → Prop) (s : Shared) : Prop :=
  St1 pr w A Z (pyNext it) s fun r s1 => match r with
    | none => done s1
    | some x => St1 pr w A Z (letOwnedTupleGo tg it x) s1 fun _ s2 => St1 pr w A Z (assign tg v x) s2 fun _ s3 =>
      St1 pr w A Z (forIn cs true fun c r => if r = true then do let b ← isTrue c v (eval c v); pure (ForInStep.yield b) else pure (ForInStep.yield r)) s3 fun b s4 => if b = true then go s4 else next s4
theorem outer (hs : ∀ x, foldedSetIterable ib v x = pure x) (I : Nat → Shared → Prop)
    (turn : ∀ n s, I n s → Turn pr w A v (Out pr w A v R) ta ca it (fun z => R (.ok .next) z) (fun z => ∃ m, m < n ∧ I m z)
      (fun z => St1 pr w A (Out pr w A v R) (eval ib v) z fun x z2 => St1 pr w A (Out pr w A v R) (pyIter x) z2 fun j z3 =>
        codeAny (model pr w) A (.compStart (two el ta ia ca tb ib cb sc ps) 1 j D v) (fun r y => match r with | .ok _ => ∃ m, m < n ∧ I m y | .error _ => False) z3) s)
    (n : Nat) (h : I n s) : codeAny (model pr w) A (.compLoop (two el ta ia ca tb ib cb sc ps) 0 it D v) R s := by
  refine codeAny_loop rfl I (fun n z hz => ?_) n h
  refine wpAny_noted (env := v) ?_
  refine wpAny_bind (m := standAt ia.pos) (wpAny_standAt ?_)
  refine wpAny_bind (m := pyNext it) (wpAny_mono (turn n z hz) (fun r z1 h1 => ?_) fun _ _ q => q)
  cases r with
  | none => exact wpAny_pure h1
  | some x =>
    refine wpAny_bind (m := letOwnedTupleGo ta it x) (wpAny_mono h1 (fun _ z2 h2 => ?_) fun _ _ q => q)
    refine wpAny_bind (m := assign ta v x) (wpAny_mono h2 (fun _ z3 h3 => wpAny_bind (wpAny_mono h3 (fun b z4 h4 => ?_) fun _ _ q => q)) fun _ _ q => q)
    cases b with
    | false => exact wpAny_pure ⟨rfl, h4⟩
    | true =>
      refine wpAny_bind (m := eval ib v) (wpAny_mono h4 (fun y z5 h5 => ?_) fun _ _ q => q)
      refine wpAny_bind (m := standAt ib.pos) (wpAny_standAt ?_)
      refine wpAny_bind (wpAny_of_eq (hs y) (wpAny_bind (wpAny_holding (wpAny_mono h5 (fun j z6 h6 => wpAny_bind (wpAny_runOwn ?_)) fun _ _ q => q))))
      rw [Around.mark_none]
      refine codeAny_mono h6 fun r z7 h7 => ?_
      cases r with
      | ok f => first | exact wpAny_pure ⟨rfl, h7⟩ | exact wpAny_bind (wpAny_pure (wpAny_pure ⟨rfl, h7⟩))
      | error e => exact False.elim h7
theorem inner (I : Nat → Shared → Prop)
    (turn : ∀ n s, I n s → Turn pr w A v (Out pr w A v R) tb cb it (fun z => R (.ok .next) z) (fun z => ∃ m, m < n ∧ I m z)
      (fun z => St1 pr w A (Out pr w A v R) (eval el v) z fun x z2 => St1 pr w A (Out pr w A v R) (call (.builtin "set.add") [D, x]) z2 fun _ z3 => ∃ m, m < n ∧ I m z3) s)
    (n : Nat) (h : I n s) : codeAny (model pr w) A (.compLoop (two el ta ia ca tb ib cb sc ps) 1 it D v) R s := by
  refine codeAny_loop rfl I (fun n z hz => ?_) n h
  refine wpAny_noted (env := v) ?_
  refine wpAny_bind (m := standAt ib.pos) (wpAny_standAt ?_)
  refine wpAny_bind (m := pyNext it) (wpAny_mono (turn n z hz) (fun r z1 h1 => ?_) fun _ _ q => q)
  cases r with
  | none => exact wpAny_pure h1
  | some x =>
    refine wpAny_bind (m := letOwnedTupleGo tb it x) (wpAny_mono h1 (fun _ z2 h2 => ?_) fun _ _ q => q)
    refine wpAny_bind (m := assign tb v x) (wpAny_mono h2 (fun _ z3 h3 => wpAny_bind (wpAny_mono h3 (fun b z4 h4 => ?_) fun _ _ q => q)) fun _ _ q => q)
    cases b with
    | false => exact wpAny_pure ⟨rfl, h4⟩
    | true => exact wpAny_bind (wpAny_bind (wpAny_mono h4 (fun y z5 h5 => wpAny_bind (wpAny_standAt (wpAny_bind (wpAny_mono h5 (fun _ z6 h6 => wpAny_pure (wpAny_pure ⟨rfl, h6⟩)) fun _ _ q => q)))) fun _ _ q => q))
theorem start1 (h0 : codeAny (model pr w) A (.compLoop (two el ta ia ca tb ib cb sc ps) 1 it D v) R s)
    (h : St1 pr w A (Out pr w A v R) (pyIter it) s fun j z => codeAny (model pr w) A (.compLoop (two el ta ia ca tb ib cb sc ps) 1 j D v) R z) :
    codeAny (model pr w) A (.compStart (two el ta ia ca tb ib cb sc ps) 1 it D v) R s := by
  refine codeAny_of_tree (wpAny_notedAt (env := v) ?_)
  unfold compStart
  show wpAny _ _ (ask >>= _) _ _ s
  refine wpAny_bind (wpAny_askSetting (wpAny_ite ?_))
  split
  · first | exact wpAny_bind (wpAny_pure (wpAny_pure ⟨rfl, h0⟩)) | exact wpAny_pure ⟨rfl, h0⟩
  · first
      | exact wpAny_bind (wpAny_rule (wpAny_bind (wpAny_standAt (wpAny_bind (wpAny_mono h (fun j z q => wpAny_pure ⟨rfl, q⟩) fun _ _ y => y)))))
      | (refine wpAny_bind (wpAny_rule ?_); show wpAny _ _ (standAt ib.pos >>= _) _ _ s; exact wpAny_bind (wpAny_standAt (wpAny_bind (wpAny_mono h (fun j z q => wpAny_pure ⟨rfl, q⟩) fun _ _ y => y))))
end
section
variable {X : Cx}
abbrev sO (w : World) (D : Addr) : HO := SetO w D (fun _ => false) 0
def tSc2 (w : World) (wi : TI) (g : TG) (tt : TT) (wj : TI) (f : TG) (uu : TT) (te : TE) (vs us : List Nat) : TE := fun σ H Q => wi σ H fun J H1 => ∀ D, H1 D = none →
  ∃ W : Nat → Nat → Hp → Prop, (∃ m, W 0 m (upd H1 D (sO w D))) ∧ ∀ i m H2, W i m H2 → (J.stop i H2 ∧ Q (.ref D) H2) ∨
    (J.go i H2 ∧ ∃ N : Hp → Prop, (∀ H3, N H3 → ∃ l, l < m ∧ W (i + 1) l H3) ∧ ∀ x H3, J.yld i H2 x H3 → g x (wipe σ vs) H3 fun τ H4 => wipe τ vs = wipe σ vs ∧ tt τ H4 fun b H5 =>
      if b = true then wj τ H5 fun J2 H6 => ∃ V2 : Nat → Nat → Hp → Prop, (∃ m, V2 0 m H6) ∧ ∀ j k H7, V2 j k H7 → (J2.stop j H7 ∧ N H7) ∨
        (J2.go j H7 ∧ ∃ M : Hp → Prop, (∀ H8, M H8 → ∃ l, l < k ∧ V2 (j + 1) l H8) ∧ ∀ y H8, J2.yld j H7 y H8 → f y (wipe τ us) H8 fun ρ H9 => wipe ρ us = wipe τ us ∧ uu ρ H9 fun c Ha =>
          if c = true then te ρ Ha fun z Hb => ∃ (k : Int) (S : Int → Bool) (n : Nat), z = .int k ∧ Hb D = some (SetO w D S n) ∧ n + 1 < scanBound ∧ M (upd Hb D (SetO w D (fun j => S j || decide (j = k)) (if S k = true then n else n + 1))) else M Ha)
      else N H5)
/-- what a block's rule is asked for: in any frame of the block -/
abbrev In (X : Cx) (sc : Scope) (p : Cx → Prop) : Prop := ∀ (s : Shared) (H : Hp) (C : Addr) (cl : List (Str × Addr)) (fp : List Addr), p (X.blk s H sc (compEnvC sc cl C X.env) fp)
theorem sc2_core {pins : List (Addr × Obj)} {s : Shared} {σ : L2.St} {H : Hp} {Q : VK} {el ta ia tb ib : Expr} {ca cb : List Expr} {sc : Scope} {own : List (Str × Nat)} {us : List Nat} {ps pq : Pos} {wi wj : TI} {g f : TG} {tt uu : TT} {te : TE} {use : Option (Value → Sem Unit)} {Qf : Value → Shared → Prop}
    (hc : X.calm = true) (hN : X.N.Nodup) (I : Inv X pins σ H s) (hi : PI X ta ia wi) (ok : BlkOk X.N X.env.scope sc own) (hv : ∀ i ∈ us, i ∈ own.map (·.2))
    (kg : In X sc fun Y => PG Y ta g) (kt : In X sc fun Y => PTs Y ca tt) (ke : In X sc fun Y => PE Y el te) (hs : ∀ x, foldedSetIterable ia X.env x = pure x)
    (ki : In X sc fun Y => PI Y tb ib wj) (kf : In X sc fun Y => PG Y tb f) (ku : In X sc fun Y => PTs Y cb uu) (hs2 : ∀ env x, foldedSetIterable ib env x = pure x)
    (h : tSc2 X.w wi g tt wj f uu te (own.map (·.2)) us σ H Q)
    (back : ∀ D C z m Hz, Inv X pins σ Hz z → Q (.ref D) Hz → z.heap.Ns C m → FpOk X pins Hz C → compPost (model X.prog X.w) X.A X.xe use Qf (.ref D) C (.ok .next) z) :
    wpAny (model X.prog X.w) X.A (comprehension (two el ta ia ca tb ib cb sc ps) sc X.env pq (newSet (.type "set")) false (eval ia X.env) use) Qf X.xe s := by
  have free : ∀ y ∈ sc.names, y.2 = .free → ∃ c, X.env.cells.lookup y.1 = some c := fun y hy e => (ok.free y hy e).elim (fun k => I.ok.has _ (.inl k)) fun k => I.ok.has _ (.inr k)
  refine wpAny_comprehension_free (use := use) rfl hs (closure_ok free) ok.kind (fun y hy e => by rw [ok.uniq y hy, e]) (thn (hi.run pins s σ H _ I h) fun _ sA hA => thn hA fun _ sB hB => ?_)
  obtain ⟨it, fp, tn, J, HB, rfl, IB, T, stB, fB, q⟩ := hB
  refine PpSet.newSet_ok (newEnv_comp ?_)
  generalize hD : sB.heap.objs.size = D
  have fresh : HB D = none := IB.hok.fresh (Nat.le_of_eq hD)
  obtain ⟨W, ⟨m0, w0⟩, walk⟩ := q D fresh
  generalize eC : ({ sB with heap := sB.heap.push (LcS.nul X.w) } : Shared) = sC
  have hpC : sC.heap = sB.heap.push (LcS.nul X.w) := by rw [← eC]
  have IC : Inv X pins σ (upd HB D (sO X.w D)) sC := by
    rw [← eC]
    refine IB.laid (t' := sB.toks) (fun b o e => Heap.get?_push_of_some _ e) (Nat.le_of_eq hD) ?_
    rw [← hD]
    exact setO_new (by simpa using setR_new_at (w := X.w) (ns := []) (Heap.get?_push_size sB.heap rfl))
  have young : ∀ b ∈ fp, b < sB.heap.objs.size := fun b hb => (T.obj _ _ stB b hb).elim fun o e => Heap.lt_size e.1
  have fC : ∀ b ∈ fp, FpOk X pins (upd HB D (sO X.w D)) b ∧ b < sC.heap.objs.size := fun b hb => by
    have y := young b hb
    refine ⟨⟨?_, (fB b hb).2⟩, by rw [hpC, Heap.size_push]; exact Nat.lt_succ_of_lt y⟩
    rw [upd_ne (by rw [← hD]; exact Nat.ne_of_lt y)]
    exact (fB b hb).1
  have stC : tn 0 sC.heap := T.keep _ _ _ stB fun b _ o e => by rw [hpC]; exact Heap.get?_push_of_some _ e
  have ID := block_start IC ok hN fC
  have pg := kg sC (upd HB D (sO X.w D)) sC.heap.objs.size (cellsFrom (sC.heap.objs.size + 1) sc.names (cloFrom X.env.cells sc.names [])) fp
  have pt := kt sC (upd HB D (sO X.w D)) sC.heap.objs.size (cellsFrom (sC.heap.objs.size + 1) sc.names (cloFrom X.env.cells sc.names [])) fp
  have pe := ke sC (upd HB D (sO X.w D)) sC.heap.objs.size (cellsFrom (sC.heap.objs.size + 1) sc.names (cloFrom X.env.cells sc.names [])) fp
  have pi := ki sC (upd HB D (sO X.w D)) sC.heap.objs.size (cellsFrom (sC.heap.objs.size + 1) sc.names (cloFrom X.env.cells sc.names [])) fp
  have pf := kf sC (upd HB D (sO X.w D)) sC.heap.objs.size (cellsFrom (sC.heap.objs.size + 1) sc.names (cloFrom X.env.cells sc.names [])) fp
  have pu := ku sC (upd HB D (sO X.w D)) sC.heap.objs.size (cellsFrom (sC.heap.objs.size + 1) sc.names (cloFrom X.env.cells sc.names [])) fp
  show codeAny _ _ (.compStart (two el ta ia ca tb ib cb sc ps) 0 (.ref it) (.ref D) (compEnvC sc (cellsFrom (sC.heap.objs.size + 1) sc.names (cloFrom X.env.cells sc.names [])) sC.heap.objs.size X.env)) (compPost (model X.prog X.w) X.A X.xe use Qf (.ref D) sC.heap.objs.size)
    { sC with heap := pushCells (sC.heap.push { cls := .type "dict", data := .dict #[] }) sc.names }
  have off : ∀ b ∈ fp, (upd HB D (sO X.w D)) b = none := fun b hb => (fC b hb).1.1
  generalize hv2 : compEnvC sc (cellsFrom (sC.heap.objs.size + 1) sc.names (cloFrom X.env.cells sc.names [])) sC.heap.objs.size X.env = v at ID pg pt pe pi pf pu ⊢
  have loc : v.locals = sC.heap.objs.size := by subst hv2; rfl
  generalize hH : upd HB D (sO X.w D) = HC at IC ID pg pt pe pi pf pu w0 off fC
  generalize hsD : ({ sC with heap := pushCells (sC.heap.push { cls := .type "dict", data := .dict #[] }) sc.names } : Shared) = sD at ID ⊢
  have stD : tn 0 sD.heap := T.keep _ _ _ stC fun b _ o e => by rw [← hsD]; exact pushCells_keeps _ _ _ _ (Heap.get?_push_of_some _ e)
  -- the iterator's objects, in the block
  have apart : ∀ {ρ : L2.St} {G : Hp} {z : Shared}, Inv (X.blk sC HC sc v fp) [] ρ G z → (∀ b ∈ fp, G b = none) → ∀ b ∈ fp, FpOk (X.blk sC HC sc v fp) [] G b := fun {ρ G z} J' n b hb =>
    ⟨n b hb, (J'.ok.exf b hb).1, J'.ok.exfs b hb, .inl hb, fun x c e => (J'.ok.exf b hb).2 x c e, fun p hp => absurd (show p ∈ ([] : List (Addr × Obj)) ++ [] from hp) (by simp)⟩
  -- where a turn begins
  let At : Nat → Nat → Shared → Prop := fun n i z => ∃ G, Inv (X.blk sC HC sc v fp) [] (wipe σ (own.map (·.2))) G z ∧ tn i z.heap ∧ (∀ b ∈ fp, G b = none) ∧ W i n G
  have all : codeAny (model X.prog X.w) X.A (.compLoop (two el ta ia ca tb ib cb sc ps) 0 (.ref it) (.ref D) v) (compPost (model X.prog X.w) X.A X.xe use Qf (.ref D) sC.heap.objs.size) sD := by
    refine outer (hs2 v) (fun n z => ∃ i, At n i z) ?_ m0 ⟨0, HC, ID, stD, off, w0⟩
    rintro n s5 ⟨i, H5, I5, st5, n5, w5⟩
    rcases walk i n H5 w5 with ⟨stop, fin⟩ | ⟨go, N, down, step⟩
    · refine thnF (T.done (X.blk sC HC sc v fp) rfl rfl rfl hc i [] s5 _ H5 (fun _ _ => False) I5 (apart I5 n5) st5 stop) fun r s6 h6 => ?_
      obtain ⟨rfl, I6⟩ := h6
      have I7 : Inv X pins σ H5 s6 := IC.call' (ch := fp) I6.os I6.base I6.hok I6.bare fun b hb => ⟨(fC b hb).1.2.2.2.1, (fC b hb).1.2.1, (fC b hb).1.2.2.2.2.1, (fC b hb).1.2.2.2.2.2⟩
      have nC : H5 sC.heap.objs.size = none := loc ▸ (show H5 v.locals = none from I6.free)
      obtain ⟨m, ns, _⟩ := I6.loc
      have ns : s6.heap.Ns v.locals m := ns
      rw [loc] at ns
      exact back D sC.heap.objs.size s6 m H5 I7 fin ns (IC.fpOk (Nat.le_refl _) nC)
    · refine thnF (T.item (X.blk sC HC sc v fp) rfl rfl rfl hc i [] s5 _ H5 (fun _ _ => False) I5 (apart I5 n5) st5 go) fun r s6 h6 => ?_
      obtain ⟨u, rfl, h6⟩ := h6
      refine thnF h6 fun _ s7 h7 => ?_
      obtain ⟨x, H7, I7, r7, y7, st7, n7⟩ := h7
      refine thnF (pg.run _ s7 _ H7 x u _ (I7.pinned (apart I7 n7) (T.obj _ _ st7)) r7 (step x H7 y7)) fun _ s8 h8 => ?_
      obtain ⟨τ, H8, I8, e8, q8⟩ := h8
      refine thnF (pt.run _ s8 τ H8 _ I8 q8) fun b s9 h9 => ?_
      obtain ⟨H9, I9, q9⟩ := h9
      have len8 : (wipe σ (own.map (·.2))).length = τ.length := by rw [← e8, wipe_length]
      have kn8 : ∀ (j : Nat) y, (wipe σ (own.map (·.2)))[j]? = some (some y) → τ[j]? = some (some y) := fun j y e => (wipe_some (by rw [e8]; exact e)).1
      have kn9 : ∀ (j : Nat) y, (wipe σ (own.map (·.2)))[j]? = some (some y) → (wipe τ us)[j]? = some (some y) := fun j y e => by
        obtain ⟨a, c⟩ := wipe_some (show (wipe τ (own.map (·.2)))[j]? = some (some y) by rw [e8]; exact e)
        rw [wipe_out fun z => c (hv j z)]
        exact a
      -- a turn's end
      have next : ∀ {ρ : L2.St} {z : Shared} {G : Hp}, Inv (X.blk sC HC sc v fp) ([] ++ pinsAt fp s7.heap) ρ G z → (wipe σ (own.map (·.2))).length = ρ.length →
          (∀ (j : Nat) y, (wipe σ (own.map (·.2)))[j]? = some (some y) → ρ[j]? = some (some y)) → N G → ∃ m, m < n ∧ ∃ i, At m i z := fun {ρ z G} I' hl hk nx => by
        obtain ⟨l, lt, w'⟩ := down G nx
        have pinned : ∀ b ∈ fp, ∀ o, s7.heap.get? b = some o → z.heap.get? b = some o ∧ G b = none := fun b hb o e => by
          have z := I'.pin (b, o) (List.mem_append_right _ (List.mem_append_right _ (mem_pinsAt hb e)))
          exact ⟨z.1, z.2.1⟩
        exact ⟨l, lt, i + 1, G, (I'.unpinned (pins := [])).weak hl hk, T.keep _ _ _ st7 fun b hb o e => (pinned b hb o e).1, fun b hb => (T.obj _ _ st7 b hb).elim fun o e => (pinned b hb o e.1).2, w'⟩
      cases b with
      | false => exact next I9 len8 kn8 q9
      | true =>
        refine thnF (pi.run _ s9 τ H9 _ I9 q9) fun _ sx hx => thnF hx fun _ sy hy => ?_
        obtain ⟨jt, fq, tq, J2, Hy, rfl, Iy, T2, sty, fy, V2, ⟨m2, v0⟩, walk2⟩ := hy
        have apart2 : ∀ {G : Hp}, (∀ b ∈ fq, G b = none) → ∀ b ∈ fq, FpOk (X.blk sC HC sc v fp) ([] ++ pinsAt fp s7.heap) G b := fun n b hb => ⟨n b hb, (fy b hb).2⟩
        have lp : codeAny (model X.prog X.w) X.A (.compLoop (two el ta ia ca tb ib cb sc ps) 1 (.ref jt) (.ref D) v)
            (fun r z => match r with | .ok _ => ∃ m, m < n ∧ ∃ i, At m i z | .error _ => False) sy := by
          refine inner (fun k z => ∃ j G, Inv (X.blk sC HC sc v fp) ([] ++ pinsAt fp s7.heap) (wipe τ us) G z ∧ tq j z.heap ∧ (∀ b ∈ fq, G b = none) ∧ V2 j k G) ?_ m2 ⟨0, Hy, Iy.weak (wipe_length _ _) (fun j y e => (wipe_some e).1), sty, fun b hb => (fy b hb).1, v0⟩
          rintro k sz ⟨j, Hz, Iz, stz, nz, vz⟩
          rcases walk2 j k Hz vz with ⟨stop2, nx⟩ | ⟨go2, M, down2, step2⟩
          · refine thnF (T2.done (X.blk sC HC sc v fp) rfl rfl rfl hc j _ sz (wipe τ us) Hz (fun _ _ => False) Iz (apart2 nz) stz stop2) fun r sv h13 => ?_
            obtain ⟨rfl, Iv⟩ := h13
            exact next Iv (len8.trans (wipe_length τ us).symm) kn9 nx
          · refine thnF (T2.item (X.blk sC HC sc v fp) rfl rfl rfl hc j _ sz (wipe τ us) Hz (fun _ _ => False) Iz (apart2 nz) stz go2) fun r sv h13 => ?_
            obtain ⟨u2, rfl, h13⟩ := h13
            refine thnF h13 fun _ sw h14 => ?_
            obtain ⟨x2, Hw, Iw, rw2, yw, stw, nw⟩ := h14
            refine thnF (pf.run _ sw (wipe τ us) Hw x2 u2 _ (Iw.pinned (apart2 nw) (T2.obj _ _ stw)) rw2 (step2 x2 Hw yw)) fun _ s15 h15 => ?_
            obtain ⟨ρ, H15, I15, e15, q15⟩ := h15
            refine thnF (pu.run _ s15 ρ H15 _ I15 q15) fun c s16 h16 => ?_
            obtain ⟨H16, I16, q16⟩ := h16
            have next2 : ∀ {z : Shared} {G : Hp}, Inv (X.blk sC HC sc v fp) (([] ++ pinsAt fp s7.heap) ++ pinsAt fq sw.heap) ρ G z → M G → ∃ m, m < k ∧ ∃ j G, Inv (X.blk sC HC sc v fp) ([] ++ pinsAt fp s7.heap) (wipe τ us) G z ∧ tq j z.heap ∧ (∀ b ∈ fq, G b = none) ∧ V2 j m G := fun {z G} I' nx => by
              obtain ⟨l, lt, w'⟩ := down2 G nx
              have pinned : ∀ b ∈ fq, ∀ o, sw.heap.get? b = some o → z.heap.get? b = some o ∧ G b = none := fun b hb o e => by
                have y := I'.pin (b, o) (List.mem_append_right _ (List.mem_append_right _ (mem_pinsAt hb e)))
                exact ⟨y.1, y.2.1⟩
              exact ⟨l, lt, j + 1, G, I'.unpinned.weak (by rw [← e15, wipe_length]) (fun j y e => (wipe_some (by rw [e15]; exact e)).1), T2.keep _ _ _ stw fun b hb o e => (pinned b hb o e).1, fun b hb => (T2.obj _ _ stw b hb).elim fun o e => (pinned b hb o e.1).2, w'⟩
            cases c with
            | false => exact next2 I16 q16
            | true =>
              refine thnF (pe.run _ s16 ρ H16 _ I16 q16) fun y s17 h17 => ?_
              obtain ⟨yv, H17, I17, r17, kk, S, n, rfl, hDn, room, nx⟩ := h17
              refine thnF (mt_sadd (X := X.blk sC HC sc v fp) _ s17 ρ H17 (.ref D) [.int kk] (.ref D) [y] (fun _ G => M G) I17 rfl (.cons r17 .nil) ⟨D, kk, S, n, rfl, rfl, hDn, room, nx⟩) fun _ s18 h18 => ?_
              obtain ⟨_, H18, I18, _, nx18⟩ := h18
              exact next2 I18 nx18
        exact start1 lp (T2.self X.A 0 _ _ _ sty lp)
  exact PpSet.codeAny_compStart_set all (T.self X.A 0 _ _ _ stD all)
theorem pe_sc2 {el ta ia tb ib : Expr} {ca cb : List Expr} {sc : Scope} {own : List (Str × Nat)} {vs1 : List Nat} {ps : Pos} {wi wj : TI} {g g1 : TG} {tt tt1 : TT} {te : TE} (hc : X.calm = true) (hN : X.N.Nodup) (hi : PI X ta ia wi) (ok : BlkOk X.N X.env.scope sc own) (hv : ∀ i ∈ vs1, i ∈ own.map (·.2))
    (kg : In X sc fun Y => PG Y ta g) (kt : In X sc fun Y => PTs Y ca tt) (ki : In X sc fun Y => PI Y tb ib wj) (kf : In X sc fun Y => PG Y tb g1) (ku : In X sc fun Y => PTs Y cb tt1) (ke : In X sc fun Y => PE Y el te)
    (hs : ∀ x, foldedSetIterable ia X.env x = pure x := by intro _; rfl) (hs2 : ∀ env x, foldedSetIterable ib env x = pure x := by intro _ _; rfl) :
    PE X (two el ta ia ca tb ib cb sc ps) (tSc2 X.w wi g tt wj g1 tt1 te (own.map (·.2)) vs1) := by
  refine ⟨fun pins s σ H Q I h => ?_⟩
  rw [PpSet.eval_SetComp]
  refine sc2_core hc hN I hi ok hv kg kt ke hs ki kf ku hs2 h fun D C z m Hz I' q ns fo => ⟨m, ns, fun h'' sb => ?_⟩
  obtain ⟨o0, o1, o2, o3, o4, o5⟩ := fo
  exact ⟨.ref D, Hz, I'.turned (t' := z.toks) (fun b o hb e => (sb.2 b hb).trans e) o0 o1 o3 o4 o5, rfl, q⟩
end
end LcC
namespace Lc
open PySem PySem.Spec PyProof.Rows L2 RZ
/-! ### data at hand -/
inductive Dt where
  | non | bl (b : Bool) | int (i : Int) | str (s : Str) | lst (xs : List Dt) | tup (z : Bool) (xs : List Dt) | dic | ins (C : Addr) (ns : List Str) (xs : List Dt)
mutual
/-- no instance in it -/
def Dt.pl : Dt → Bool
  | .lst xs => Dt.plAll xs
  | .tup _ xs => Dt.plAll xs
  | .ins _ _ _ => false
  | .dic => false
  | _ => true
def Dt.plAll : List Dt → Bool
  | [] => true
  | d :: r => d.pl && Dt.plAll r
end
theorem plAll_eq (ds : List Dt) : Dt.plAll ds = ds.all Dt.pl := by
  induction ds with
  | nil => rfl
  | cons d r ih => rw [Dt.plAll, ih]; rfl
theorem pl_ints (ns : List Int) : Dt.plAll (ns.map Dt.int) = true := by
  induction ns with
  | nil => rfl
  | cons d r ih => rw [List.map_cons, Dt.plAll, ih]; rfl
theorem pl_strs (ns : List Str) : Dt.plAll (ns.map Dt.str) = true := by
  induction ns with
  | nil => rfl
  | cons d r ih => rw [List.map_cons, Dt.plAll, ih]; rfl
/-- a tuple held: z where it's known to have no dict of its own -/
inductive Tp (H : Hp) (a : Addr) : Bool → List V → Prop where
  | new {xs : List V} (e : H a = some (.tup xs)) : Tp H a false xs
  | bare {o : Obj} {xs : List V} (c : o.cls = .type "tuple") (d : o.dict = none) (e : H a = some (.frz o (.tup xs))) : Tp H a true xs
theorem Tp.sq {K : PySem.W.Frag} {H : Hp} {a : Addr} {z : Bool} {xs : List V} (h : Tp H a z xs) : SqT K H a xs := by
  cases h with
  | new e => exact SqT.of e
  | bare c d e => exact .inl (.inr ⟨_, e⟩)
theorem Tp.but {H H' : Hp} {a p : Addr} {z : Bool} {xs : List V} (b : But p H H') (ne : a ≠ p) (h : Tp H a z xs) : Tp H' a z xs := by
  cases h with
  | new e => exact .new (b _ _ ne e)
  | bare c d e => exact .bare c d (b _ _ ne e)
theorem Tp.same {H H' : Hp} {a : Addr} {z : Bool} {xs : List V} (k : Same H H') (h : Tp H a z xs) : Tp H' a z xs := by
  cases h with
  | new e => exact .new (k _ _ e)
  | bare c d e => exact .bare c d (k _ _ e)
mutual
inductive Ob (H : Hp) (p : Addr) : V → Dt → Prop where
  | non : Ob H p .non .non
  | bl (b : Bool) : Ob H p (.bl b) (.bl b)
  | int (i : Int) : Ob H p (.int i) (.int i)
  | str (s : Str) : Ob H p (.str s) (.str s)
  | lst {a : Addr} {xs : List V} {ds : List Dt} (e : H a = some (.lst xs)) (ne : a ≠ p) (all : Obs H p xs ds) : Ob H p (.ref a) (.lst ds)
  | tup {a : Addr} {z : Bool} {xs : List V} {ds : List Dt} (e : Tp H a z xs) (ne : a ≠ p) (all : Obs H p xs ds) : Ob H p (.ref a) (.tup z ds)
  | dic {a : Addr} (e : H a = some (.dK [])) (ne : a ≠ p) : Ob H p (.ref a) .dic
inductive Obs (H : Hp) (p : Addr) : List V → List Dt → Prop where
  | nil : Obs H p [] []
  | cons {v : V} {d : Dt} {vs : List V} {ds : List Dt} (h : Ob H p v d) (t : Obs H p vs ds) : Obs H p (v :: vs) (d :: ds)
end
mutual
theorem Ob.but {H H' : Hp} {p : Addr} (b : But p H H') : ∀ {v : V} {d : Dt}, Ob H p v d → Ob H' p v d
  | _, _, .non => .non
  | _, _, .bl b => .bl b
  | _, _, .int i => .int i
  | _, _, .str s => .str s
  | _, _, .lst e ne all => .lst (b _ _ ne e) ne (Obs.but b all)
  | _, _, .tup e ne all => .tup (e.but b ne) ne (Obs.but b all)
  | _, _, .dic e ne => .dic (b _ _ ne e) ne
theorem Obs.but {H H' : Hp} {p : Addr} (b : But p H H') : ∀ {vs : List V} {ds : List Dt}, Obs H p vs ds → Obs H' p vs ds
  | _, _, .nil => .nil
  | _, _, .cons h t => .cons (Ob.but b h) (Obs.but b t)
end
section
variable {H H' : Hp} {p : Addr} {v : V} {d : Dt} {vs : List V} {ds : List Dt}
theorem Ob.same (k : Same H H') (h : Ob H p v d) : Ob H' p v d := h.but fun c o _ e => k c o e
theorem Obs.same (k : Same H H') (h : Obs H p vs ds) : Obs H' p vs ds := h.but fun c o _ e => k c o e
theorem Obs.len : ∀ {vs : List V} {ds : List Dt}, Obs H p vs ds → vs.length = ds.length
  | _, _, .nil => rfl
  | _, _, .cons _ t => congrArg Nat.succ (Obs.len t)
theorem Obs.get : ∀ {vs : List V} {ds : List Dt} {i : Nat} {x : V}, Obs H p vs ds → vs[i]? = some x → ∃ d, ds[i]? = some d ∧ Ob H p x d
  | _, _, _, _, .nil, e => by simp at e
  | _, _, 0, _, .cons h _, e => by
    have e := Option.some.inj (show some _ = some _ from e)
    subst e; exact ⟨_, rfl, h⟩
  | _, _, i + 1, x, .cons _ t, e => Obs.get (i := i) t (by simpa using e)
theorem Obs.append : ∀ {vs ws : List V} {ds es : List Dt}, Obs H p vs ds → Obs H p ws es → Obs H p (vs ++ ws) (ds ++ es)
  | _, _, _, _, .nil, s => s
  | _, _, _, _, .cons h t, s => .cons h (Obs.append t s)
def tyName : Dt → String
  | .non => "NoneType" | .bl _ => "bool" | .int _ => "int" | .str _ => "str" | .lst _ => "list" | .tup _ _ => "tuple" | .dic => "dict" | .ins _ _ _ => "object"
theorem Ob.arg {K : PySem.W.Frag} (h : Ob H p v d) : Arg K H v (tyName d) := by
  cases h with
  | non => exact .non
  | bl b => exact .bl b
  | int i => exact .int i
  | str s => exact .str s
  | lst e _ _ => exact .lst e
  | tup e _ _ =>
    cases e with
    | new e => exact .tup e
    | bare c d e => exact .ftup e
  | dic e _ => exact .dK e
end
def isT : Dt → Bool
  | .tup _ _ => true | _ => false
def isL : Dt → Bool
  | .lst _ => true | _ => false
def isBd : Dt → Bool
  | .bl _ => true | _ => false
def isId : Dt → Bool
  | .bl _ => true | .int _ => true | _ => false
theorem kit_t {K : PySem.W.Frag} (d : Dt) : PySem.W.kitOne K (.type (tyName d)) (.type "tuple") = some (isT d) := by
  cases d <;> dsimp only [tyName, isT] <;> exact kit_ty (by decide +kernel)
theorem kit_l {K : PySem.W.Frag} (d : Dt) : PySem.W.kitOne K (.type (tyName d)) (.type "list") = some (isL d) := by
  cases d <;> dsimp only [tyName, isL] <;> exact kit_ty (by decide +kernel)
theorem kit_b {K : PySem.W.Frag} (d : Dt) : PySem.W.kitOne K (.type (tyName d)) (.type "bool") = some (isBd d) := by
  cases d <;> dsimp only [tyName, isBd] <;> exact kit_ty (by decide +kernel)
theorem kit_i {K : PySem.W.Frag} (d : Dt) : PySem.W.kitOne K (.type (tyName d)) (.type "int") = some (isId d) := by
  cases d <;> dsimp only [tyName, isId] <;> exact kit_ty (by decide +kernel)
/-! ### what a case, a house is -/
def wholeD (d : Dt) (lo hi : Int) : Bool := match d with
  | .int i => decide (lo ≤ i) && decide (i ≤ hi)
  | _ => false
def wordD (d : Dt) (ws : List Str) : Bool := match d with
  | .str s => decide (s ∈ ws)
  | _ => false
def rowD (d : Dt) (lo hi : Int) : Bool := match d with
  | .tup _ xs => decide (lo ≤ (xs.length : Int)) && decide ((xs.length : Int) ≤ hi)
  | _ => false
def itemsD : Dt → List Dt
  | .tup _ xs => xs
  | _ => []
def intD : Dt → Int
  | .int i => i
  | _ => 0
theorem whole_ob {H : Hp} {p : Addr} {v : V} {d : Dt} {lo hi : Int} (h : Ob H p v d) : wholeV v lo hi = wholeD d lo hi := by cases h <;> rfl
theorem word_ob {H : Hp} {p : Addr} {v : V} {d : Dt} {ws : List Str} (h : Ob H p v d) : wordV v ws = wordD d ws := by cases h <;> rfl
def countsD (d : Dt) : Bool := rowD d 2 3 && (itemsD d).all fun x => wholeD x 1 4
def courseD (d c : Dt) : Bool := rowD d ((itemsD c).length : Nat) ((itemsD c).length : Nat) && ((itemsD d).zip (itemsD c)).all fun q => wholeD q.1 0 (intD q.2 - 1)
def refusals : List Str := ["back", "lost"]
def notings : List Str := ["behind", "first", "with"]
def planWords : List Str := ["show", "tell", "agree", "close", "clear", "drain", "copy", "open", "drop"]
def schemeD (d : Dt) : Bool := match d with
  | .tup _ [a, b, r, n, s] => isBd a && isBd b && isBd s && (wordD r refusals && wordD n notings)
  | _ => false
def isShow : Dt → Bool
  | .str s => decide (s = "show")
  | _ => false
def shows (d : Dt) : Nat := (itemsD d).countP isShow
def planD (d : Dt) : Bool := rowD d 1 15 && ((itemsD d).all (fun x => wordD x planWords) && (decide (1 ≤ shows d) && decide (shows d ≤ 2)))
def frameD (s p c : Dt) : Bool := schemeD s && (planD p && (countsD c && decide ((itemsD c).length = shows p + 1)))
def caseD (d : Dt) : Bool := match d with
  | .tup _ [s, p, c, o] => frameD s p c && courseD o c
  | _ => false
def keysD (o l c : Dt) : Bool := (rowD o 1 3 && rowD l ((itemsD o).length : Nat) ((itemsD o).length : Nat)) && ((itemsD o).all (fun x => courseD x c) && (itemsD l).all fun x => wholeD x 1 3)
def houseD (d : Dt) : Bool := match d with
  | .tup _ [s, p, c, o, l, n] => frameD s p c && (keysD o l c && wholeD n 1 3)
  | _ => false
/-- the plan's tuple, where its words are words, has no dict -/
def fzPlan : Dt → Prop
  | .tup z xs => rowD (.tup z xs) 1 15 = true → (xs.all fun x => wordD x planWords) = true → z = true
  | _ => True
def fzCase : Dt → Prop
  | .tup _ [_, p, _, _] => fzPlan p
  | _ => True
def fzHouse : Dt → Prop
  | .tup _ [_, p, _, _, _, _] => fzPlan p
  | _ => True
/-! ### promises -/
def spRow : Sp := fun vs H Q _ => ∃ (p : Addr) (x : V) (d : Dt) (lo hi : Int), vs = [x, .int lo, .int hi] ∧ Ob H p x d ∧ Q (.bl (rowD d lo hi)) H
/-- a test of one object -/
def spIs (ok : Dt → Prop) (f : Dt → Bool) : Sp := fun vs H Q _ => ∃ (p : Addr) (x : V) (d : Dt), vs = [x] ∧ Ob H p x d ∧ ok d ∧ ∀ H', Same H H' → Q (.bl (f d)) H'
def spIs2 (ok : Dt → Prop) (f : Dt → Dt → Bool) : Sp := fun vs H Q _ => ∃ (p : Addr) (x y : V) (d e : Dt), vs = [x, y] ∧ Ob H p x d ∧ Ob H p y e ∧ ok e ∧ ∀ H', Same H H' → Q (.bl (f d e)) H'
def spIs3 (ok : Dt → Dt → Dt → Prop) (f : Dt → Dt → Dt → Bool) : Sp := fun vs H Q _ => ∃ (p : Addr) (x y z : V) (d e g : Dt), vs = [x, y, z] ∧ Ob H p x d ∧ Ob H p y e ∧ Ob H p z g ∧ ok d e g ∧ ∀ H', Same H H' → Q (.bl (f d e g)) H'
/-- all([test of x for x in t]), t a tuple -/
theorem all_comp {K : PySem.W.Frag} {a : Addr} {xs : List V} {ds : List Dt} {i0 j : Nat} {te : TE} {σ : L2.St} {H : Hp} {Q : VK} {p : Addr} (f : Dt → Bool) (hj : σ[j]? = some (some (.ref a))) {z : Bool} (hT : Tp H a z xs) (hO : Obs H p xs ds) (hl : xs.length ≤ 1000)
    (hte : ∀ (x : V) (d : Dt) (H' : Hp) (R : VK), Same H H' → Ob H' p x d → (∀ H2, Same H' H2 → R (.bl (f d)) H2) → te ((wipe σ [i0]).set i0 (some x)) H' R)
    (hw : ∀ x : V, wipe ((wipe σ [i0]).set i0 (some x)) [i0] = wipe σ [i0])
    (q : ∀ H', Same H H' → Q (.bl (ds.all f)) H') : tCB (rAll K) (tCons (tLc (iTup K (tVar j)) (gName i0) tYes te [i0]) tNil) σ H Q := by
  refine ⟨_, hj, a, rfl, ⟨_, hT.sq⟩, fun D hD => ?_⟩
  have len := hO.len
  refine lc_tup (K := K) (a := a) (xs := xs) (fun i H' => Same H H' ∧ H' D = some (.lst (((ds.take i).map f).map V.bl))) ⟨same_upd hD, upd_same⟩ (fun i H' _ h => (hT.same h.1).sq) ?_ ?_
  · rintro i x H' hx ⟨k, e⟩
    obtain ⟨d, hd, ob⟩ := (hO.same k).get hx
    refine ⟨hw x, hte x d H' _ k ob fun H2 k2 => ⟨_, k2 _ _ e, ?_, fun c o hc => ?_, ?_⟩⟩
    · rw [List.length_map, List.length_map, List.length_take]
      exact Nat.lt_of_le_of_lt (show _ ≤ 1000 by omega) (by decide)
    · rw [upd_ne (ne_of_none hc hD)]; exact k2 _ _ (k c o hc)
    · rw [upd_same, List.take_add_one, hd, List.map_append, List.map_append]; rfl
  · rintro H' ⟨k, e⟩
    rw [len, List.take_length] at e
    refine ⟨D, _, rfl, SqL.of e, ?_⟩
    have e2 : (ds.map f).all id = ds.all f := by rw [List.all_map]; rfl
    rw [e2]
    exact q H' k
/-- all([test of x, y for x, y in zip(t, u)]), t, u tuples -/
theorem all_zip {K : PySem.W.Frag} {a b : Addr} {xs ys : List V} {ds es : List Dt} {i1 i2 j1 j2 : Nat} {te : TE} {σ : L2.St} {H : Hp} {Q : VK} {p : Addr} (f : Dt × Dt → Bool) (hj : σ[j1]? = some (some (.ref a))) (hj2 : σ[j2]? = some (some (.ref b)))
    {z : Bool} (hT : Tp H a z xs) {z2 : Bool} (hU : Tp H b z2 ys) (hO : Obs H p xs ds) (hP : Obs H p ys es) (hl : xs.length ≤ 1000)
    (hte : ∀ (x y : V) (d e : Dt) (H' : Hp) (R : VK), Same H H' → Ob H' p x d → Ob H' p y e → e ∈ es → (∀ H2, Same H' H2 → R (.bl (f (d, e))) H2) → te (((wipe σ [i1, i2]).set i1 (some x)).set i2 (some y)) H' R)
    (hw : ∀ x y : V, wipe (((wipe σ [i1, i2]).set i1 (some x)).set i2 (some y)) [i1, i2] = wipe σ [i1, i2])
    (q : ∀ H', Same H H' → Q (.bl ((ds.zip es).all f)) H') : tCB (rAll K) (tCons (tLc (iZipA K (tCons (tVar j1) (tCons (tVar j2) tNil))) (gTup K 2 (gCons (gName i1) (gCons (gName i2) gNil))) tYes te [i1, i2]) tNil) σ H Q := by
  refine ⟨_, hj, _, hj2, a, b, xs, ys, rfl, .inr ⟨hT.sq, hU.sq, fun D hD => ?_⟩⟩
  have l1 := hO.len
  have l2 := hP.len
  have lz : (ds.zip es).length ≤ 1000 := by rw [List.length_zip]; omega
  refine ⟨fun i m H' => m = (ds.zip es).length - i ∧ i ≤ (ds.zip es).length ∧ Same H H' ∧ H' D = some (.lst ((((ds.zip es).take i).map f).map V.bl)), ⟨_, rfl, Nat.zero_le _, same_upd hD, upd_same⟩, ?_⟩
  rintro i m H' ⟨rfl, hi, k, e⟩
  by_cases lt : i < (ds.zip es).length
  · have lt2 := lt
    rw [List.length_zip] at lt2
    have gx : xs[i]? = some xs[i] := List.getElem?_eq_getElem (by omega)
    have gy : ys[i]? = some ys[i] := List.getElem?_eq_getElem (by omega)
    obtain ⟨d, gd, od⟩ := (hO.same k).get gx
    obtain ⟨e', ge, oe⟩ := (hP.same k).get gy
    refine .inr ⟨⟨xs, ys, _, _, (hT.same k).sq, (hU.same k).sq, gx, gy⟩, fun H2 => Same H H2 ∧ H2 D = some (.lst ((((ds.zip es).take (i + 1)).map f).map V.bl)), fun H2 h2 => ⟨_, by omega, rfl, lt, h2⟩, ?_⟩
    rintro v H2 ⟨t, x, y, rfl, ht, rfl, fx, fy⟩
    have ex : x = xs[i] := Option.some.inj ((fx _ ((hT.same k).sq)).symm.trans gx)
    have ey : y = ys[i] := Option.some.inj ((fy _ ((hU.same k).sq)).symm.trans gy)
    subst ex; subst ey
    have kt := same_upd (o := .tup [xs[i], ys[i]]) ht
    refine ⟨t, _, rfl, SqT.of upd_same, rfl, _, _, rfl, _, _, rfl, rfl, ?_⟩
    refine ⟨hw _ _, hte _ _ d e' _ _ (k.trans kt) (od.same kt) (oe.same kt) (List.mem_of_getElem? ge) fun H3 k3 => ⟨_, k3 _ _ (kt _ _ e), ?_, fun c o hc => ?_, ?_⟩⟩
    · rw [List.length_map, List.length_map, List.length_take]
      exact Nat.lt_of_le_of_lt (show _ ≤ 1000 by omega) (by decide)
    · rw [upd_ne (ne_of_none hc hD)]; exact k3 _ _ (kt _ _ (k c o hc))
    · have gz : (ds.zip es)[i]? = some (d, e') := by rw [List.getElem?_zip_eq_some]; exact ⟨gd, ge⟩
      rw [upd_same, List.take_add_one, gz, List.map_append, List.map_append]; rfl
  · have ei : i = (ds.zip es).length := by omega
    subst ei
    rw [List.take_length] at e
    have e2 : ((ds.zip es).map f).all id = (ds.zip es).all f := by rw [List.all_map]; rfl
    refine .inl ⟨⟨xs, ys, (hT.same k).sq, (hU.same k).sq, ?_⟩, D, _, rfl, SqL.of e, ?_⟩
    · rw [List.length_zip]; omega
    · rw [e2]; exact q H' k
/-! ### t.count(text) -/
def rTCnt (K : PySem.W.Frag) : V → List V → Hp → VK → Prop := fun x xs H Q => ∃ (p : Addr) (ws : List Str) (k : Str), x = .ref p ∧ xs = [.str k] ∧ SqT K H p (ws.map V.str) ∧ Q (.int (ws.countP fun y => decide (y = k) : Nat)) H
theorem dp_strs {K : PySem.W.Frag} {H : Hp} : ∀ ws : List Str, DpAll K H (ws.map V.str) (ws.map PyData.str)
  | [] => .nil
  | w :: r => .cons (.str w) (dp_strs r)
theorem plain_strs : ∀ ws : List Str, PyData.plainAll (ws.map PyData.str) = true
  | [] => rfl
  | w :: r => by
    rw [List.map_cons]
    show (PyData.plain (.str w) && PyData.plainAll (r.map PyData.str)) = true
    rw [plain_strs r]; rfl
theorem mt_tcount {X : Cx} (hu : X.A.units + 64 < cLine) : MtR X "tuple.count" (rTCnt X.K) := by
  intro pins s σ H x xs v us Q I rx rxs h
  obtain ⟨p, ws, k, rfl, rfl, hs, q⟩ := h
  cases rx
  obtain ⟨u, rfl, ru⟩ := rxs.one
  obtain ⟨its, rv, pt, _⟩ := I.tuple hs
  obtain ⟨as, rs⟩ := Dp.readsAll I (ws.map PyData.str) (ws.map V.str) its (dp_strs ws) rv
  obtain ⟨bs, rk⟩ := Dp.reads I (.str k) (.str k) u (.str k) ru
  have dk : PyData.depth (.str k) ≤ 1 := by simp [PyData.depth]
  refine PySem.SeqAt.count_tuple_data pt (by simpa using rs) rk (plain_strs ws) rfl (by have := Nat.min_le_right (PyData.depthAll (ws.map PyData.str)) (PyData.depth (.str k)); omega) ⟨.int _, H, I.tok _, ⟨_, rfl⟩, ?_⟩
  have e : (ws.map PyData.str).countP (fun y => PyData.eqv y (.str k)) = ws.countP fun y => decide (y = k) := by
    rw [List.countP_map]
    congr 1
  rw [e]; exact q
/-! ### tuples laid, known to have no dict -/
section
variable {X : Cx} {es : List Expr} {t : TA} {pos : Pos}
/-- (e, ..) -/
def tTupF (t : TA) : TE := fun σ H Q => t σ H fun xs H1 => xs.length ≤ sizeLine ∧ ∀ p H2, H1 p = none → Same H1 H2 → Tp H2 p true xs → (∀ b, H2 b = none → H1 b = none) → Q (.ref p) H2
theorem fz_same {H : Hp} {p : Addr} {u : HO} (h : H p = none) : ∀ b, (upd H p u) b = none → H b = none := fun b e => by
  by_cases z : b = p
  · subst z; exact h
  · rw [upd_ne z] at e; exact e
theorem pe_tupF {c} (h : PA X es t) : PE X (.Tuple es c pos) (tTupF t) := by
  refine ⟨fun pins s σ H Q I hq => ?_⟩
  refine wpAny_Tuple_spliced (thn (h.run pos pins s σ H _ I hq) fun us s1 ⟨xs, H1, I1, r, z, q⟩ => ⟨by rw [← r.length]; exact z, ?_⟩)
  have hf : H1 s1.heap.objs.size = none := I1.hok.fresh (Nat.le_refl _)
  refine ⟨.ref s1.heap.objs.size, _, I1.laid (t' := s1.toks) (o := .frz { cls := .type "tuple", data := .seq us.toArray } (.tup xs)) (fun b u e => Heap.get?_push_of_some _ e) (Nat.le_refl _) ?_, rfl, q _ _ hf (same_upd hf) (.bare rfl rfl upd_same) (fz_same hf)⟩
  exact ⟨Heap.get?_push_size _ rfl, z, us, r, ⟨_, Heap.get?_push_size _ rfl, rfl, _, rfl⟩⟩
/-- tuple(a list) -/
def tTupOfF (K : PySem.W.Frag) (ta : TE) : TE := fun σ H Q => ta σ H fun x H1 => ∃ a xs, x = .ref a ∧ SqL K H1 a xs ∧ ∀ p H2, H1 p = none → Same H1 H2 → Tp H2 p true xs → (∀ b, H2 b = none → H1 b = none) → Q (.ref p) H2
theorem pe_tupleOfF {a : Expr} {ta : TE} {p pos : Pos} (hg : Gl X "tuple") (hm : X.mg "tuple" = none) (ha : PE X a ta) (na : starEach [a] X.env = (false, eval a X.env) :: starEach [] X.env := by rfl) : PE X (.Call (.Name "tuple" p) [a] [] pos) (tTupOfF X.K ta) := by
  refine ⟨fun pins s σ H Q I h => ?_⟩
  refine Call_ (ld_blt I hg hm boot_tuple (PyProof.Rows.callWith_type1 (one_arg ha I h (fun v s2 x H2 I2 r q => ?_) na) na))
  obtain ⟨b, xs, rfl, hs, q⟩ := q
  obtain rfl : v = .ref b := r
  obtain ⟨its, rv, pl, hz⟩ := I2.list hs
  refine call_tuple_list pl.isList (fun h' hk => ?_) (by rw [List.size_toArray, ← rv.length]; exact hz)
  have I3 : Inv X pins σ H2 { s2 with heap := h' } := I2.kept (t' := s2.toks) hk
  have hf : H2 h'.objs.size = none := I3.hok.fresh (Nat.le_refl _)
  refine ⟨.ref h'.objs.size, _, I3.laid (t' := s2.toks) (o := .frz { cls := .type "tuple", data := .seq its.toArray } (.tup xs)) (fun b o e => Heap.get?_push_of_some _ e) (Nat.le_refl _) ?_, rfl, q _ _ hf (same_upd hf) (.bare rfl rfl upd_same) (fz_same hf)⟩
  exact ⟨Heap.get?_push_size _ rfl, hz, its, rv, IsTup.new _ _⟩
/-- t + u -/
def rCatF (K : PySem.W.Frag) : R2 := fun x y H Q => ∃ a b xs ys, x = .ref a ∧ y = .ref b ∧ SqT K H a xs ∧ SqT K H b ys ∧ xs.length + ys.length ≤ sizeLine ∧
  (xs = [] → Q (.ref b) H) ∧ (xs ≠ [] → ys = [] → Q (.ref a) H) ∧ (xs ≠ [] → ys ≠ [] → ∀ p H2, H p = none → Same H H2 → Tp H2 p true (xs ++ ys) → (∀ b, H2 b = none → H b = none) → Q (.ref p) H2)
theorem op_catF : OpR X (binaryOp .Add) (rCatF X.K) := by
  intro pins s σ H x y v u Q I rx ry h
  obtain ⟨a, b, xs, ys, rfl, rfl, ha, hb, hz, q0, q1, q2⟩ := h
  cases rx
  cases ry
  obtain ⟨its, r1, p1, _⟩ := I.tuple ha
  obtain ⟨its2, r2, p2, _⟩ := I.tuple hb
  by_cases hx : xs = []
  · subst hx
    cases r1
    exact cat_tup0 p1 p2 ⟨.ref b, H, I, rfl, q0 rfl⟩
  · refine HT.cat_tup p1 p2 (fun z => hx (r1.nil_iff.mp z)) (fun z => ⟨.ref a, H, I, rfl, q1 hx (r2.nil_iff.mp z)⟩) (fun z => ?_) (by rw [← r1.length, ← r2.length]; exact hz)
    have hf : H s.heap.objs.size = none := I.hok.fresh (Nat.le_refl _)
    refine ⟨.ref s.heap.objs.size, _, I.laid (t' := s.toks) (o := .frz { cls := .type "tuple", data := .seq (its ++ its2).toArray } (.tup (xs ++ ys))) (fun b ob q => Heap.get?_push_of_some _ q) (Nat.le_refl _) ?_, rfl, q2 hx (fun w => z (r2.nil_iff.mpr w)) _ _ hf (same_upd hf) (.bare rfl rfl upd_same) (fz_same hf)⟩
    exact ⟨Heap.get?_push_size _ rfl, by rw [List.length_append]; exact hz, _, r1.append r2, IsTup.new _ _⟩
end
/-! ### t * k, k at least one -/
section
open PySem.AutoSeq1 (wpAny_loadPart')
theorem tuple_mul1 (l : Addr) (items : Array Value) (n : Nat) (dd : Option Addr) (sl : Array (Option Value)) (u : Tok) :
    Meets (Builtin.«tuple.__mul__» ⟨[.ref l, .int 1 u], []⟩) (fun _ R s => s.heap.get? l = some { cls := .type "tuple", dict := dd, data := .seq items n, slots := sl } ∧ R (.ok (.ret (Value.ref l))) s) :=
  .of_wp fun prog w A R s h => by
    obtain ⟨hp, g, d, tk, os⟩ := s
    obtain ⟨hl, h⟩ := h
    have f1 := AutoSeq1.idx_int
    have c0 : (decide ((1 : Int) < -(2 ^ 63)) || decide ((1 : Int) ≥ 2 ^ 63)) = false := by decide
    have c1 : (items.isEmpty || (1 : Int) == 1) = true := by simp
    wp_walk using wpAny_loadPart' hl
    repeat (first
      | (refine wpAny_ite_false (decide_eq_false (by rw [c0]; exact Bool.false_ne_true)) ?_; wp_walk using wpAny_loadPart' hl)
      | (refine wpAny_ite_true (decide_eq_true c1) ?_; wp_walk using wpAny_loadPart' hl))
    exact ⟨_, rfl, h⟩
def rRepF (K : PySem.W.Frag) : R2 := fun x y H Q => ∃ l k xs, x = .ref l ∧ y = .int k ∧ SqT K H l xs ∧ xs ≠ [] ∧ 1 ≤ k ∧ k ≤ 1000 ∧ xs.length ≤ 1000 ∧ (k = 1 → Q (.ref l) H) ∧ (2 ≤ k → ∀ p, H p = none → Q (.ref p) (upd H p (.tup (List.replicate k.toNat xs).flatten)))
theorem op_repF {X : Cx} : OpR X (binaryOp .Mult) (rRepF X.K) := by
  intro pins s σ H x y v u Q I rx ry h
  obtain ⟨l, k, xs, rfl, rfl, hT, hne, h1, h2, hz, q1, q2⟩ := h
  by_cases hk : k = 1
  · subst hk
    cases rx
    obtain ⟨t, rfl⟩ := ry
    obtain ⟨its, r, ⟨⟨cls, dd, data, sl⟩, ho, hc, n, hd⟩, hs⟩ := I.tuple hT
    simp only at hc hd
    subst hc hd
    refine wpAny_binaryOp_repeat_ref (T := "tuple") (U := "int") (by decide) ⟨_, ho, rfl⟩ (fun s' => typeIs_int s' 1 t) noFill_tuple_mul PySem.F.fills_int_mul PySem.F.slot_int_rmul repeat_tuple PySem.F.slot_int_index.lookup
      (call_meets PySem.F.slot_int_rmul (typeIs_int s 1 t) PySem.F.entry_int_rmul (PySem.F.args_int_rmul_2 _ _) (int_rmul_tuple 1 t l its.toArray n dd sl)
        ⟨ho, rfl, ⟨_, ho, rfl⟩, call_meets PySem.F.slot_tuple_mul ⟨_, ho, rfl⟩ PySem.F.entry_tuple_mul (PySem.F.args_tuple_mul_2 _ _) (tuple_mul1 l its.toArray n dd sl t) ⟨ho, ?_⟩⟩)
    exact ⟨.ref l, H, I, rfl, q1 rfl⟩
  · exact op_repT pins s σ H _ _ v u Q I rx ry ⟨l, k, xs, rfl, rfl, hT, hne, by omega, h2, hz, q2 (by omega)⟩
end
/-! ### a method of a tuple that has no dict -/
def tBMF (r : V → List V → Hp → VK → Prop) (to : TE) (t : TA) : TE := fun σ H Q => to σ H fun x H1 => (∃ a xs, x = .ref a ∧ Tp H1 a true xs) ∧ t σ H1 fun xs H2 => r x xs H2 Q
section
variable {X : Cx} {o e : Expr} {es : List Expr} {to : TE} {t : TA} {name : Str} {apos cpos : Pos} {id : String} {r : V → List V → Hp → VK → Prop}
theorem pe_bmF (pa : PlainAttrs "tuple") (slot : Slot "tuple" name id) (hty : typeOf (.builtin id) = pure (.type "method_descriptor")) (hm : MtR X id r) (ho : PE X o to) (ha : PA X (e :: es) t)
    (hbase : attributeBase o name X.env (eval o X.env) = eval o X.env := by rfl)
    (hfew : ((backTo cpos (starEach (e :: es) X.env)).all (fun x => !x.1) && (backToKw cpos (keywordEach [] X.env)).all (fun x => x.1.isSome)
      && decide ((e :: es).length + ([] : List Keyword).length + (if ([] : List Keyword).isEmpty then 0 else 1) < 30)) = true := by rfl)
    (hline : (apos.endLine == cpos.line) = true := by rfl) (hs : starEach (e :: es) X.env = (false, eval e X.env) :: starEach es X.env := by rfl) (hplain : (backTo cpos (starEach es X.env)).any (·.1) = false := by rfl) :
    PE X (.Call (.Attribute o name apos) (e :: es) [] cpos) (tBMF r to t) := by
  refine ⟨fun pins s σ H Q I h => ?_⟩
  refine wpAny_Call_method_late hbase hfew hline rfl (thn (ho.run pins s σ H _ I h) fun v s1 ⟨x, H1, I1, r1, ty, q1⟩ => ?_)
  have hh : s1.TypeIs v "tuple" ∧ ∀ a, v = .ref a → ∃ ob, s1.heap.get? a = some ob ∧ ob.dict = none := by
    obtain ⟨a, xs, rfl, tp⟩ := ty
    obtain rfl : v = .ref a := r1
    cases tp with
    | @bare ob _ c d e =>
      obtain ⟨g, _⟩ := I1.hok a _ e
      exact ⟨⟨ob, g, c⟩, fun b z => by cases z; exact ⟨ob, g, d⟩⟩
  obtain ⟨h1, h2⟩ := hh
  refine ⟨"tuple", id, pa, slot, hty, h1, h2, ?_⟩
  have hA := ha.run cpos pins s1 σ H1 _ I1 q1
  rw [hs] at hA ⊢
  refine Calls.callWith_builtin (by show (false || (backTo cpos (starEach es X.env)).any (·.1)) = false; rw [hplain] <;> rfl) (Calls.evalArgs_plain ?_)
  exact thn hA fun us s2 ⟨vs, H2, I2, r2, q2⟩ => hm pins s2 σ H2 x vs v us Q I2 r1 r2 q2
end
end Lc
namespace Lc
open PySem PySem.Spec PyProof.Rows L2 RZ
/-! ### comprehensions in comprehensions -/
def relabelC (sc scope : Scope) : Scope :=
  { scope with names := scope.names.map fun q => if q.2 == .free && sc.kind == .function && sc.names.lookup q.1 == some .cell then (q.1, .cell) else (q.1, q.2) }
theorem blkOk_in {N : List Str} {sc0 scO scI : Scope} {env : Env} {own : List (Str × Nat)} (he : env.scope = sc0) (h : blkC N (relabelC sc0 scO) scI own = true) : BlkOk N (relabel scO env) scI own := by
  have e : relabel scO env = relabelC sc0 scO := by subst he; rfl
  rw [e]
  exact blkOk_by h
/-! ### data trees, some addresses kept out -/
abbrev AS := Addr → Prop
def And1 (Av : Addr → Prop) (D : Addr) : Addr → Prop := fun b => Av b ∨ b = D
mutual
inductive Oc (H : Hp) (S : AS) : V → Dt → Prop where
  | non : Oc H S .non .non
  | bl (b : Bool) : Oc H S (.bl b) (.bl b)
  | int (i : Int) : Oc H S (.int i) (.int i)
  | str (s : Str) : Oc H S (.str s) (.str s)
  | lst {a : Addr} {xs : List V} {ds : List Dt} (e : H a = some (.lst xs)) (ne : ¬ S a) (all : Ocs H S xs ds) : Oc H S (.ref a) (.lst ds)
  | tup {a : Addr} {z : Bool} {xs : List V} {ds : List Dt} (e : Tp H a z xs) (ne : ¬ S a) (all : Ocs H S xs ds) : Oc H S (.ref a) (.tup z ds)
  | ins {a C dx : Addr} {fs : List (Str × V)} {ns : List Str} {ds : List Dt} (e : H a = some (.ins C dx fs)) (ne : ¬ S a) (hn : fs.map Prod.fst = ns) (all : Ocs H S (fs.map Prod.snd) ds) : Oc H S (.ref a) (.ins C ns ds)
inductive Ocs (H : Hp) (S : AS) : List V → List Dt → Prop where
  | nil : Ocs H S [] []
  | cons {v : V} {d : Dt} {vs : List V} {ds : List Dt} (h : Oc H S v d) (t : Ocs H S vs ds) : Ocs H S (v :: vs) (d :: ds)
end
/-- all but S stands as it was -/
def ButS (S : AS) (H H' : Hp) : Prop := ∀ b o, ¬ S b → H b = some o → H' b = some o
def Lv (H : Hp) (S : AS) : Prop := ∀ a, S a → H a ≠ none
theorem Tp.butS {H H' : Hp} {S : AS} {a : Addr} {z : Bool} {xs : List V} (b : ButS S H H') (ne : ¬ S a) (h : Tp H a z xs) : Tp H' a z xs := by
  cases h with
  | new e => exact .new (b _ _ ne e)
  | bare c d e => exact .bare c d (b _ _ ne e)
mutual
theorem Oc.but {H H' : Hp} {S : AS} (b : ButS S H H') : ∀ {v : V} {d : Dt}, Oc H S v d → Oc H' S v d
  | _, _, .non => .non
  | _, _, .bl b => .bl b
  | _, _, .int i => .int i
  | _, _, .str s => .str s
  | _, _, .lst e ne all => .lst (b _ _ ne e) ne (Ocs.but b all)
  | _, _, .tup e ne all => .tup (e.butS b ne) ne (Ocs.but b all)
  | _, _, .ins e ne hn all => .ins (b _ _ ne e) ne hn (Ocs.but b all)
theorem Ocs.but {H H' : Hp} {S : AS} (b : ButS S H H') : ∀ {vs : List V} {ds : List Dt}, Ocs H S vs ds → Ocs H' S vs ds
  | _, _, .nil => .nil
  | _, _, .cons h t => .cons (Oc.but b h) (Ocs.but b t)
end
mutual
theorem Oc.sub {H : Hp} {S S' : AS} (k : ∀ a, S' a → S a) : ∀ {v : V} {d : Dt}, Oc H S v d → Oc H S' v d
  | _, _, .non => .non
  | _, _, .bl b => .bl b
  | _, _, .int i => .int i
  | _, _, .str s => .str s
  | _, _, .lst e ne all => .lst e (fun z => ne (k _ z)) (Ocs.sub k all)
  | _, _, .tup e ne all => .tup e (fun z => ne (k _ z)) (Ocs.sub k all)
  | _, _, .ins e ne hn all => .ins e (fun z => ne (k _ z)) hn (Ocs.sub k all)
theorem Ocs.sub {H : Hp} {S S' : AS} (k : ∀ a, S' a → S a) : ∀ {vs : List V} {ds : List Dt}, Ocs H S vs ds → Ocs H S' vs ds
  | _, _, .nil => .nil
  | _, _, .cons h t => .cons (Oc.sub k h) (Ocs.sub k t)
end
theorem Tp.some {H : Hp} {a : Addr} {z : Bool} {xs : List V} (h : Tp H a z xs) : H a ≠ none := by
  cases h with
  | new e => rw [e]; exact fun z => nomatch z
  | bare c d e => rw [e]; exact fun z => nomatch z
mutual
theorem Oc.add {H : Hp} {S : AS} {D : Addr} (hD : H D = none) : ∀ {v : V} {d : Dt}, Oc H S v d → Oc H (And1 S D) v d
  | _, _, .non => .non
  | _, _, .bl b => .bl b
  | _, _, .int i => .int i
  | _, _, .str s => .str s
  | _, _, .lst e ne all => .lst e (fun z => z.elim ne fun y => by rw [y, hD] at e; cases e) (Ocs.add hD all)
  | _, _, .tup e ne all => .tup e (fun z => z.elim ne fun y => e.some (y ▸ hD)) (Ocs.add hD all)
  | _, _, .ins e ne hn all => .ins e (fun z => z.elim ne fun y => by rw [y, hD] at e; cases e) hn (Ocs.add hD all)
theorem Ocs.add {H : Hp} {S : AS} {D : Addr} (hD : H D = none) : ∀ {vs : List V} {ds : List Dt}, Ocs H S vs ds → Ocs H (And1 S D) vs ds
  | _, _, .nil => .nil
  | _, _, .cons h t => .cons (Oc.add hD h) (Ocs.add hD t)
end
section
variable {H H' : Hp} {S S' : AS} {v : V} {d : Dt} {vs : List V} {ds : List Dt}
theorem Same.butS (k : Same H H') : ButS S H H' := fun b o _ e => k b o e
theorem Oc.same (k : Same H H') (h : Oc H S v d) : Oc H' S v d := h.but (Same.butS k)
theorem Ocs.same (k : Same H H') (h : Ocs H S vs ds) : Ocs H' S vs ds := h.but (Same.butS k)
theorem Ocs.len : ∀ {vs : List V} {ds : List Dt}, Ocs H S vs ds → vs.length = ds.length
  | _, _, .nil => rfl
  | _, _, .cons _ t => congrArg Nat.succ (Ocs.len t)
theorem Ocs.get : ∀ {vs : List V} {ds : List Dt} {i : Nat} {x : V}, Ocs H S vs ds → vs[i]? = some x → ∃ d, ds[i]? = some d ∧ Oc H S x d
  | _, _, _, _, .nil, e => by simp at e
  | _, _, 0, _, .cons h _, e => by
    have e := Option.some.inj (show some _ = some _ from e)
    subst e; exact ⟨_, rfl, h⟩
  | _, _, i + 1, x, .cons _ t, e => Ocs.get (i := i) t (by simpa using e)
theorem Ocs.at : ∀ {vs : List V} {ds : List Dt} {i : Nat} {d : Dt}, Ocs H S vs ds → ds[i]? = some d → ∃ x, vs[i]? = some x ∧ Oc H S x d
  | _, _, _, _, .nil, e => by simp at e
  | _, _, 0, _, .cons h _, e => by
    have e := Option.some.inj (show some _ = some _ from e)
    subst e; exact ⟨_, rfl, h⟩
  | _, _, i + 1, x, .cons _ t, e => Ocs.at (i := i) t (by simpa using e)
theorem Ocs.append : ∀ {vs ws : List V} {ds es : List Dt}, Ocs H S vs ds → Ocs H S ws es → Ocs H S (vs ++ ws) (ds ++ es)
  | _, _, _, _, .nil, s => s
  | _, _, _, _, .cons h t, s => .cons h (Ocs.append t s)
theorem Ocs.snoc (h : Ocs H S vs ds) (t : Oc H S v d) : Ocs H S (vs ++ [v]) (ds ++ [d]) := h.append (.cons t .nil)
theorem Oc.put {D : Addr} {o : HO} (hD : S D) (h : Oc H S v d) : Oc (upd H D o) S v d := h.but fun b u n e => by
  rw [upd_ne (fun z => n (by rw [z]; exact hD))]; exact e
theorem Ocs.put {D : Addr} {o : HO} (hD : S D) (h : Ocs H S vs ds) : Ocs (upd H D o) S vs ds := h.but fun b u n e => by
  rw [upd_ne (fun z => n (by rw [z]; exact hD))]; exact e
theorem Lv.same (k : Same H H') (h : Lv H S) : Lv H' S := fun a ha z => by
  cases y : H a with
  | none => exact h a ha y
  | some o => rw [k _ _ y] at z; cases z
theorem Lv.add {D : Addr} {o : HO} (h : Lv H S) (hD : H D = none) : Lv (upd H D o) (And1 S D) := fun b hb z => by
  rcases hb with hb | hb
  · exact Lv.same (same_upd hD) h b hb z
  · subst hb; rw [upd_same] at z; cases z
theorem Lv.out {D : Addr} (h : Lv H S) (hD : H D = none) : ¬ S D := fun z => h D z hD
theorem Oc.arg {K : PySem.W.Frag} (h : Oc H S v d) (n : d.pl = true := by rfl) : Arg K H v (tyName d) := by
  cases h with
  | ins e ne hn all => cases n
  | non => exact .non
  | bl b => exact .bl b
  | int i => exact .int i
  | str s => exact .str s
  | lst e _ _ => exact .lst e
  | tup e _ _ =>
    cases e with
    | new e => exact .tup e
    | bare c d e => exact .ftup e
theorem Oc.lst_inv (h : Oc H S v (.lst ds)) : ∃ a xs, v = .ref a ∧ H a = some (.lst xs) ∧ ¬ S a ∧ Ocs H S xs ds := by
  cases h with
  | lst e ne all => exact ⟨_, _, rfl, e, ne, all⟩
theorem Oc.tup_inv {z : Bool} (h : Oc H S v (.tup z ds)) : ∃ a xs, v = .ref a ∧ Tp H a z xs ∧ ¬ S a ∧ Ocs H S xs ds := by
  cases h with
  | tup e ne all => exact ⟨_, _, rfl, e, ne, all⟩
theorem Oc.int_inv {i : Int} (h : Oc H S v (.int i)) : v = .int i := by cases h; rfl
theorem Oc.bl_inv {i : Bool} (h : Oc H S v (.bl i)) : v = .bl i := by cases h; rfl
theorem Oc.str_inv {i : Str} (h : Oc H S v (.str i)) : v = .str i := by cases h; rfl
theorem Ocs.ints : ∀ {vs : List V} {ns : List Int}, Ocs H S vs (ns.map Dt.int) → vs = ns.map V.int
  | _, [], .nil => rfl
  | _, n :: r, .cons h t => by rw [h.int_inv, Ocs.ints t]; rfl
theorem ocs_ints : ∀ ns : List Int, Ocs H S (ns.map V.int) (ns.map Dt.int)
  | [] => .nil
  | n :: r => .cons (.int n) (ocs_ints r)
theorem Ocs.strs : ∀ {vs : List V} {ns : List Str}, Ocs H S vs (ns.map Dt.str) → vs = ns.map V.str
  | _, [], .nil => rfl
  | _, n :: r, .cons h t => by rw [h.str_inv, Ocs.strs t]; rfl
theorem Ocs.bls : ∀ {vs : List V} {ns : List Bool}, Ocs H S vs (ns.map Dt.bl) → vs = ns.map V.bl
  | _, [], .nil => rfl
  | _, n :: r, .cons h t => by rw [h.bl_inv, Ocs.bls t]; rfl
end
mutual
theorem Oc.ob' {H : Hp} {S : AS} {p : Addr} (hp : S p) : ∀ {v : V} {d : Dt}, Oc H S v d → d.pl = true → Ob H p v d
  | _, _, .non, _ => .non
  | _, _, .bl b, _ => .bl b
  | _, _, .int i, _ => .int i
  | _, _, .str s, _ => .str s
  | _, _, .lst e ne all, n => .lst e (fun z => ne (z ▸ hp)) (Ocs.ob' hp all (by rw [Dt.pl] at n; exact n))
  | _, _, .tup e ne all, n => .tup e (fun z => ne (z ▸ hp)) (Ocs.ob' hp all (by rw [Dt.pl] at n; exact n))
  | _, _, .ins _ _ _ _, n => (nomatch n)
theorem Ocs.ob' {H : Hp} {S : AS} {p : Addr} (hp : S p) : ∀ {vs : List V} {ds : List Dt}, Ocs H S vs ds → Dt.plAll ds = true → Obs H p vs ds
  | _, _, .nil, _ => .nil
  | _, _, .cons h t, n => .cons (Oc.ob' hp h (by rw [Dt.plAll, Bool.and_eq_true] at n; exact n.1)) (Ocs.ob' hp t (by rw [Dt.plAll, Bool.and_eq_true] at n; exact n.2))
end
theorem Oc.ob {H : Hp} {S : AS} {p : Addr} {v : V} {d : Dt} (h : Oc H S v d) (hp : S p) (n : d.pl = true := by first | rfl | exact pl_ints _ | exact pl_strs _) : Ob H p v d := h.ob' hp n
theorem Oc.ins_inv {H : Hp} {S : AS} {v : V} {C : Addr} {ns : List Str} {ds : List Dt} (h : Oc H S v (.ins C ns ds)) : ∃ a dx fs, v = .ref a ∧ H a = some (.ins C dx fs) ∧ ¬ S a ∧ fs.map Prod.fst = ns ∧ Ocs H S (fs.map Prod.snd) ds := by
  cases h with
  | ins e ne hn all => exact ⟨_, _, _, rfl, e, ne, hn, all⟩
/-! ### from one place to a later one -/
structure Lift (H : Hp) (S : AS) (H1 : Hp) (S1 : AS) : Prop where
  ob : ∀ {u : V} {e : Dt}, Oc H S u e → Oc H1 S1 u e
  live : Lv H1 S1
  sub : ∀ a, S a → S1 a
  same : Same H H1
theorem Lift.refl {H : Hp} {S : AS} (l : Lv H S) : Lift H S H S := ⟨fun h => h, l, fun _ h => h, fun _ _ z => z⟩
theorem Lift.trans {H H1 H2 : Hp} {S S1 S2 : AS} (x : Lift H S H1 S1) (y : Lift H1 S1 H2 S2) : Lift H S H2 S2 := ⟨fun h => y.ob (x.ob h), y.live, fun a h => y.sub a (x.sub a h), x.same.trans y.same⟩
theorem Lift.then {H H1 H2 : Hp} {S S1 : AS} (x : Lift H S H1 S1) (k : Same H1 H2) : Lift H S H2 S1 := ⟨fun h => (x.ob h).same k, Lv.same k x.live, x.sub, x.same.trans k⟩
theorem Lift.new {H : Hp} {S : AS} {D : Addr} {o : HO} (l : Lv H S) (hD : H D = none) : Lift H S (upd H D o) (And1 S D) :=
  ⟨fun h => (h.add hD).put (.inr rfl), l.add hD, fun a h => .inl h, same_upd hD⟩
theorem Lift.obs {H H1 : Hp} {S S1 : AS} (x : Lift H S H1 S1) : ∀ {us : List V} {es : List Dt}, Ocs H S us es → Ocs H1 S1 us es
  | _, _, .nil => .nil
  | _, _, .cons h t => .cons (x.ob h) (Lift.obs x t)
/-- an expression that comes to the datum d, nothing changed -/
def DE (te : TE) (σ : L2.St) (H : Hp) (S : AS) (d : Dt) : Prop := ∀ (H1 : Hp) (S1 : AS) (Q : VK), Lift H S H1 S1 → (∀ v H2, Same H1 H2 → Oc H2 S1 v d → Q v H2) → te σ H1 Q
def DT (tt : TT) (σ : L2.St) (H : Hp) (S : AS) (b : Bool) : Prop := ∀ (H1 : Hp) (S1 : AS) (Q : Bool → Hp → Prop), Lift H S H1 S1 → (∀ H2, Same H1 H2 → Q b H2) → tt σ H1 Q
theorem DE.lift {te : TE} {σ : L2.St} {H H1 : Hp} {S S1 : AS} {d : Dt} (h : DE te σ H S d) (x : Lift H S H1 S1) : DE te σ H1 S1 d := fun H2 S2 Q y q => h H2 S2 Q (x.trans y) q
theorem DT.lift {te : TT} {σ : L2.St} {H H1 : Hp} {S S1 : AS} {d : Bool} (h : DT te σ H S d) (x : Lift H S H1 S1) : DT te σ H1 S1 d := fun H2 S2 Q y q => h H2 S2 Q (x.trans y) q
theorem DE.go {te : TE} {σ : L2.St} {H : Hp} {S : AS} {d : Dt} {Q : VK} (h : DE te σ H S d) (l : Lv H S) (q : ∀ v H2, Same H H2 → Oc H2 S v d → Q v H2) : te σ H Q := h H S Q (Lift.refl l) q
section
variable {σ : L2.St} {H : Hp} {S : AS} {K : PySem.W.Frag}
theorem D_var {i : Nat} {v : V} {d : Dt} (h : σ[i]? = some (some v)) (o : Oc H S v d) : DE (tVar i) σ H S d := fun H1 S1 Q x q => ⟨v, h, q _ _ (fun _ _ z => z) (x.ob o)⟩
theorem D_int (i : Int) : DE (tC (.int i)) σ H S (.int i) := fun H1 S1 Q x q => q _ _ (fun _ _ z => z) (.int i)
theorem D_str (i : Str) : DE (tC (.str i)) σ H S (.str i) := fun H1 S1 Q x q => q _ _ (fun _ _ z => z) (.str i)
theorem D_eq {te : TE} {d e : Dt} (h : DE te σ H S d) (z : d = e) : DE te σ H S e := z ▸ h
theorem D_add {ta tb : TE} {i j : Int} (ha : DE ta σ H S (.int i)) (hb : DE tb σ H S (.int j)) : DE (tOp (rI0 fun i j => .int (i + j)) ta tb) σ H S (.int (i + j)) := fun H1 S1 Q x q =>
  ha H1 S1 _ x fun v H2 k o => (hb.lift (x.then k)).go (Lv.same k x.live) fun u H3 k3 o3 => by
    rw [o.int_inv, o3.int_inv]
    exact ⟨i, j, rfl, rfl, q _ _ (k.trans k3) (.int _)⟩
theorem D_sub {ta tb : TE} {i j : Int} (ha : DE ta σ H S (.int i)) (hb : DE tb σ H S (.int j)) : DE (tOp (rI0 fun i j => .int (i - j)) ta tb) σ H S (.int (i - j)) := fun H1 S1 Q x q =>
  ha H1 S1 _ x fun v H2 k o => (hb.lift (x.then k)).go (Lv.same k x.live) fun u H3 k3 o3 => by
    rw [o.int_inv, o3.int_inv]
    exact ⟨i, j, rfl, rfl, q _ _ (k.trans k3) (.int _)⟩
/-- arguments -/
def DA (ta : TA) (σ : L2.St) (H : Hp) (S : AS) (ds : List Dt) : Prop := ∀ (H1 : Hp) (S1 : AS) (Q : List V → Hp → Prop), Lift H S H1 S1 → (∀ vs H2, Same H1 H2 → Ocs H2 S1 vs ds → Q vs H2) → ta σ H1 Q
theorem D_nil : DA tNil σ H S [] := fun H1 S1 Q x q => q _ _ (fun _ _ z => z) .nil
theorem D_cons {te : TE} {ta : TA} {d : Dt} {ds : List Dt} (h : DE te σ H S d) (t : DA ta σ H S ds) : DA (tCons te ta) σ H S (d :: ds) := fun H1 S1 Q x q =>
  h H1 S1 _ x fun v H2 k o => t H2 S1 _ (x.then k) fun vs H3 k3 o3 => q _ _ (k.trans k3) (.cons (o.same k3) o3)
/-- (a, ..) -/
theorem D_tup {ta : TA} {ds : List Dt} (h : DA ta σ H S ds) (hz : ds.length ≤ 1000) : DE (tTupF ta) σ H S (.tup true ds) := fun H1 S1 Q x q =>
  h H1 S1 _ x fun vs H2 k o => ⟨Nat.le_trans (show _ ≤ 1000 by rw [o.len]; exact hz) (by decide), fun p H3 hp k3 tp g => q _ _ (k.trans k3) (.tup tp (Lv.out (Lv.same k x.live) hp) (o.same k3))⟩
/-- [a, ..] -/
theorem D_lst {ta : TA} {ds : List Dt} (h : DA ta σ H S ds) (hz : ds.length ≤ 1000) : DE (tLst ta) σ H S (.lst ds) := fun H1 S1 Q x q =>
  h H1 S1 _ x fun vs H2 k o => ⟨Nat.le_trans (show _ ≤ 1000 by rw [o.len]; exact hz) (by decide), fun p hp => q _ _ (k.trans (same_upd hp)) (.lst upd_same (Lv.out (Lv.same k x.live) hp) (o.same (same_upd hp)))⟩
/-- t + u of tuples -/
theorem D_cat {ta tb : TE} {ds es : List Dt} (ha : DE ta σ H S (.tup true ds)) (hb : DE tb σ H S (.tup true es)) (hz : ds.length + es.length ≤ 1000) : DE (tOp (rCatF K) ta tb) σ H S (.tup true (ds ++ es)) := fun H1 S1 Q x q =>
  ha H1 S1 _ x fun v H2 k o => (hb.lift (x.then k)).go (Lv.same k x.live) fun u H3 k3 o3 => by
    obtain ⟨a, xs, rfl, ea, na, oa⟩ := o.tup_inv
    obtain ⟨b, ys, rfl, eb, nb, ob⟩ := o3.tup_inv
    have la := oa.len
    have lb := ob.len
    have oa' := oa.same k3
    refine ⟨a, b, xs, ys, rfl, rfl, (ea.same k3).sq, eb.sq, Nat.le_trans (show _ ≤ 1000 by omega) (by decide), fun e => ?_, fun e e2 => ?_, fun e e2 p H4 hp k4 tp g => ?_⟩
    · subst e
      cases oa
      exact q _ _ (k.trans k3) (.tup eb nb ob)
    · subst e2
      cases ob
      exact q _ _ (k.trans k3) (by rw [List.append_nil]; exact .tup (ea.same k3) na oa')
    · exact q _ _ ((k.trans k3).trans k4) (.tup tp (Lv.out (Lv.same k3 (Lv.same k x.live)) hp) ((oa'.append ob).same k4))
/-- tuple(a list) -/
theorem D_tupleOf {ta : TE} {ds : List Dt} (ha : DE ta σ H S (.lst ds)) : DE (tTupOfF K ta) σ H S (.tup true ds) := fun H1 S1 Q x q =>
  ha H1 S1 _ x fun v H2 k o => by
    obtain ⟨a, xs, rfl, ea, na, oa⟩ := o.lst_inv
    exact ⟨a, xs, rfl, SqL.of ea, fun p H3 hp k3 tp g => q _ _ (k.trans k3) (.tup tp (Lv.out (Lv.same k x.live) hp) (oa.same k3))⟩
/-! ### comprehensions -/
/-- one turn: what is put to the list, if anything is -/
def Turn1 (g : TG) (tt : TT) (te : TE) (vs : List Nat) (σ : L2.St) (x : V) (H : Hp) (S : AS) (r : Option Dt) : Prop :=
  ∀ (C : V → Hp → Prop) (N : Hp → Prop), (∀ y d H4, r = some d → Same H H4 → Oc H4 S y d → C y H4) → (∀ H4, r = none → Same H H4 → N H4) →
    g x (wipe σ vs) H fun σ2 H2 => wipe σ2 vs = wipe σ vs ∧ tt σ2 H2 fun b H3 => if b = true then te σ2 H3 C else N H3
theorem turn_map {te : TE} {i : Nat} {x : V} {d : Dt} (hw : wipe ((wipe σ [i]).set i (some x)) [i] = wipe σ [i]) (l : Lv H S) (h : DE te ((wipe σ [i]).set i (some x)) H S d) : Turn1 (gName i) tYes te [i] σ x H S (some d) := fun C N hc hn =>
  ⟨hw, h.go l fun v H2 k o => hc _ _ _ rfl k o⟩
theorem turn_test {te : TE} {tt : TT} {i : Nat} {x : V} {d : Dt} {b : Bool} (hw : wipe ((wipe σ [i]).set i (some x)) [i] = wipe σ [i]) (l : Lv H S) (ht : DT tt ((wipe σ [i]).set i (some x)) H S b) (h : b = true → DE te ((wipe σ [i]).set i (some x)) H S d) :
    Turn1 (gName i) tt te [i] σ x H S (if b = true then some d else none) := fun C N hc hn =>
  ⟨hw, ht H S _ (Lift.refl l) fun H2 k => by
    cases b with
    | true => exact ((h rfl).lift ((Lift.refl l).then k)).go (Lv.same k l) fun v H3 k3 o => hc _ _ _ rfl (k.trans k3) o
    | false => exact hn _ rfl k⟩
/-- what is made so far stands at D -/
structure Made (H2 : Hp) (S : AS) (D : Addr) (ds : List Dt) (H' : Hp) : Prop where
  same : Same H2 H'
  acc : ∃ vs, H' D = some (.lst vs) ∧ Ocs H' (And1 S D) vs ds
theorem Made.nil {H2 : Hp} {D : Addr} (hD : H2 D = none) : Made H2 S D [] (upd H2 D (.lst [])) := ⟨same_upd hD, [], upd_same, .nil⟩
theorem Made.lift {H2 H' : Hp} {D : Addr} {ds : List Dt} (l : Lv H2 S) (hD : H2 D = none) (m : Made H2 S D ds H') : Lift H2 S H' (And1 S D) := by
  refine ⟨fun h => (h.add hD).same m.same, fun a ha z => ?_, fun a h => .inl h, m.same⟩
  rcases ha with ha | ha
  · exact Lv.same m.same l a ha z
  · obtain ⟨vs, e, _⟩ := m.acc
    rw [ha, e] at z; cases z
theorem Made.step {H2 H' H4 : Hp} {D : Addr} {ds : List Dt} {y : V} {d : Dt} (hD : H2 D = none) (m : Made H2 S D ds H') (k : Same H' H4) (o : Oc H4 (And1 S D) y d) (hz : ds.length < 1000000) :
    ∃ acc, H4 D = some (.lst acc) ∧ acc.length < sizeLine ∧ Made H2 S D (ds ++ [d]) (upd H4 D (.lst (acc ++ [y]))) := by
  obtain ⟨vs, e, oc⟩ := m.acc
  refine ⟨vs, k _ _ e, Nat.lt_of_lt_of_le (show _ < 1000000 by rw [oc.len]; exact hz) (by decide), fun b o hb => ?_, _, upd_same, ((oc.same k).snoc o).put (.inr rfl)⟩
  rw [upd_ne (ne_of_none hb hD)]
  exact k _ _ (m.same _ _ hb)
theorem Made.done {H2 H' : Hp} {D : Addr} {ds : List Dt} (l : Lv H2 S) (hD : H2 D = none) (m : Made H2 S D ds H') : Oc H' S (.ref D) (.lst ds) := by
  obtain ⟨vs, e, oc⟩ := m.acc
  exact .lst e (Lv.out l hD) (oc.sub fun a h => .inl h)
theorem fm_len (ds : List Dt) (r : Dt → Option Dt) (i : Nat) (h : ds.length ≤ 999999) : ((ds.take i).filterMap r).length < 1000000 := by
  have := List.length_filterMap_le r (ds.take i)
  have := List.length_take_le i ds
  have := List.length_take_le' i ds
  omega
theorem fm_succ {ds : List Dt} {r : Dt → Option Dt} {i : Nat} {d : Dt} (h : ds[i]? = some d) : (ds.take (i + 1)).filterMap r = (ds.take i).filterMap r ++ (r d).toList := by
  rw [List.take_add_one, h, List.filterMap_append]
  show _ ++ List.filterMap r [d] = _
  cases e : r d <;> simp [List.filterMap, e]
section
variable {g : TG} {tt : TT} {te : TE} {vs : List Nat} {ds : List Dt} {r : Dt → Option Dt}
theorem D_lcL {tl : TE} (hl : DE tl σ H S (.lst ds)) (hz : ds.length ≤ 999999) (hs : ∀ v d H1 S1, d ∈ ds → Lift H S H1 S1 → Oc H1 S1 v d → Turn1 g tt te vs σ v H1 S1 (r d)) : DE (tLc (iList K tl) g tt te vs) σ H S (.lst (ds.filterMap r)) := fun H1 S1 Q x q =>
  hl H1 S1 _ x fun v H2 k o => by
    obtain ⟨a, xs, rfl, ea, na, oa⟩ := o.lst_inv
    have L2 := Lv.same k x.live
    refine ⟨a, rfl, ⟨_, SqL.of ea⟩, fun D hD => ?_⟩
    refine lc_list (K := K) (a := a) (xs := xs) (fun i H' => Made H2 S1 D ((ds.take i).filterMap r) H') (Made.nil hD) (fun i H' _ m => SqL.of (m.same _ _ ea)) ?_ ?_
    · intro i y H' hy m
      obtain ⟨d, hd, od⟩ := oa.get hy
      have lf := m.lift L2 hD
      refine hs y d H' _ (List.mem_of_getElem? hd) ((x.then k).trans lf) (lf.ob od) _ _ (fun z e H4 er k4 o4 => ?_) fun H4 er k4 => ?_
      · obtain ⟨acc, e1, e2, m2⟩ := m.step hD k4 o4 (fm_len ds r i hz)
        refine ⟨acc, e1, e2, ?_⟩
        rw [fm_succ hd, er]; exact m2
      · rw [fm_succ hd, er]
        show Made _ _ _ (_ ++ []) _
        rw [List.append_nil]
        obtain ⟨vs, e, oc⟩ := m.acc
        exact ⟨m.same.trans k4, vs, k4 _ _ e, oc.same k4⟩
    · intro H' m
      rw [oa.len, List.take_length] at m
      exact q _ _ (k.trans m.same) (m.done L2 hD)
theorem D_lcT {tl : TE} {z : Bool} (hl : DE tl σ H S (.tup z ds)) (hz : ds.length ≤ 999999) (hs : ∀ v d H1 S1, d ∈ ds → Lift H S H1 S1 → Oc H1 S1 v d → Turn1 g tt te vs σ v H1 S1 (r d)) : DE (tLc (iTup K tl) g tt te vs) σ H S (.lst (ds.filterMap r)) := fun H1 S1 Q x q =>
  hl H1 S1 _ x fun v H2 k o => by
    obtain ⟨a, xs, rfl, ea, na, oa⟩ := o.tup_inv
    have L2 := Lv.same k x.live
    refine ⟨a, rfl, ⟨_, ea.sq⟩, fun D hD => ?_⟩
    refine lc_tup (K := K) (a := a) (xs := xs) (fun i H' => Made H2 S1 D ((ds.take i).filterMap r) H') (Made.nil hD) (fun i H' _ m => (ea.same m.same).sq) ?_ ?_
    · intro i y H' hy m
      obtain ⟨d, hd, od⟩ := oa.get hy
      have lf := m.lift L2 hD
      refine hs y d H' _ (List.mem_of_getElem? hd) ((x.then k).trans lf) (lf.ob od) _ _ (fun z e H4 er k4 o4 => ?_) fun H4 er k4 => ?_
      · obtain ⟨acc, e1, e2, m2⟩ := m.step hD k4 o4 (fm_len ds r i hz)
        refine ⟨acc, e1, e2, ?_⟩
        rw [fm_succ hd, er]; exact m2
      · rw [fm_succ hd, er]
        show Made _ _ _ (_ ++ []) _
        rw [List.append_nil]
        obtain ⟨vs, e, oc⟩ := m.acc
        exact ⟨m.same.trans k4, vs, k4 _ _ e, oc.same k4⟩
    · intro H' m
      rw [oa.len, List.take_length] at m
      exact q _ _ (k.trans m.same) (m.done L2 hD)
end
/-- the ints below n -/
def upto (n : Nat) : List Dt := (List.range n).map fun i => Dt.int (i : Nat)
theorem upto_get {n i : Nat} (h : i < n) : (upto n)[i]? = some (.int (i : Nat)) := by
  unfold upto
  rw [List.getElem?_map, List.getElem?_range h]; rfl
theorem upto_len (n : Nat) : (upto n).length = n := by unfold upto; rw [List.length_map, List.length_range]
theorem D_lcR {g : TG} {tt : TT} {te tn : TE} {vs : List Nat} {n : Nat} {r : Dt → Option Dt} (hn : DE tn σ H S (.int (n : Nat))) (hz : n ≤ 999999) (hs : ∀ (i : Nat) H1 S1, i < n → Lift H S H1 S1 → Turn1 g tt te vs σ (.int (i : Nat)) H1 S1 (r (.int (i : Nat)))) : DE (tLc (iRng1 (tCons tn tNil)) g tt te vs) σ H S (.lst ((upto n).filterMap r)) := fun H1 S1 Q x q =>
  hn H1 S1 _ x fun v H2 k o => by
    have e := o.int_inv
    subst e
    have L2 := Lv.same k x.live
    refine ⟨_, rfl, by omega, by omega, fun D hD => ?_⟩
    have et : ((n : Nat) : Int).toNat = n := Int.toNat_natCast n
    rw [et]
    refine lc_range (lo := 0) (n := n) (fun i H' => Made H2 S1 D (((upto n).take i).filterMap r) H') (Made.nil hD) ?_ ?_
    · intro i H' hi m
      have lf := m.lift L2 hD
      rw [Int.zero_add]
      have hd := upto_get hi
      refine hs i H' _ hi ((x.then k).trans lf) _ _ (fun z e H4 er k4 o4 => ?_) fun H4 er k4 => ?_
      · obtain ⟨acc, e1, e2, m2⟩ := m.step hD k4 o4 (fm_len _ r i (by rw [upto_len]; exact hz))
        refine ⟨acc, e1, e2, ?_⟩
        rw [fm_succ hd, er]; exact m2
      · rw [fm_succ hd, er]
        show Made _ _ _ (_ ++ []) _
        rw [List.append_nil]
        obtain ⟨vs, e, oc⟩ := m.acc
        exact ⟨m.same.trans k4, vs, k4 _ _ e, oc.same k4⟩
    · intro H' m
      have e2 : (upto n).take n = upto n := List.take_of_length_le (by rw [upto_len]; exact Nat.le_refl _)
      rw [e2] at m
      exact q _ _ (k.trans m.same) (m.done L2 hD)
end
end Lc
namespace Lc
open PySem PySem.Spec PyProof.Rows L2 RZ PySem.W
section
variable {σ : L2.St} {H : Hp} {S : AS} {K : PySem.W.Frag}
/-! ### two clauses -/
theorem fm2_len (ds : List Dt) (f : Dt → List Dt) (h : ∀ d ∈ ds, (f d).length ≤ 500) : ∀ i, i ≤ 1000 → ((ds.take i).flatMap f).length ≤ i * 500
  | 0, _ => by simp
  | i + 1, hi => by
    have ih := fm2_len ds f h i (by omega)
    rw [List.take_add_one, List.flatMap_append, List.length_append]
    cases e : ds[i]? with
    | none => simp only [Option.toList_none, List.flatMap_nil, List.length_nil]; omega
    | some d =>
      have := h d (List.mem_of_getElem? e)
      simp only [Option.toList_some, List.flatMap_cons, List.flatMap_nil, List.append_nil]
      omega
theorem fm2_succ {ds : List Dt} {f : Dt → List Dt} {i : Nat} {d : Dt} (h : ds[i]? = some d) : (ds.take (i + 1)).flatMap f = (ds.take i).flatMap f ++ f d := by
  rw [List.take_add_one, h, List.flatMap_append]
  simp
theorem D_lc2LR {i0 i1 : Nat} {tt1 : TT} {te tl tn : TE} {ds : List Dt} {n : Dt → Nat} {r : Dt → Dt → Option Dt} (hl : DE tl σ H S (.lst ds)) (hz : ds.length ≤ 1000) (hz2 : ∀ d ∈ ds, n d ≤ 500)
    (hw : ∀ v : V, wipe ((wipe σ [i0, i1]).set i0 (some v)) [i0, i1] = wipe σ [i0, i1])
    (hn : ∀ v d H1 S1, d ∈ ds → Lift H S H1 S1 → Oc H1 S1 v d → DE tn ((wipe σ [i0, i1]).set i0 (some v)) H1 S1 (.int (n d : Nat)))
    (hs : ∀ v d H1 S1 (j : Nat), d ∈ ds → j < n d → Lift H S H1 S1 → Oc H1 S1 v d → Turn1 (gName i1) tt1 te [i1] ((wipe σ [i0, i1]).set i0 (some v)) (.int (j : Nat)) H1 S1 (r d (.int (j : Nat)))) :
    DE (tLc2 (iList K tl) (gName i0) tYes (iRng1 (tCons tn tNil)) (gName i1) tt1 te [i0, i1] [i1]) σ H S (.lst (ds.flatMap fun d => (upto (n d)).filterMap (r d))) := fun H1 S1 Q x q =>
  hl H1 S1 _ x fun v H2 k o => by
    obtain ⟨a, xs, rfl, ea, na, oa⟩ := o.lst_inv
    have L2 := Lv.same k x.live
    have hf : ∀ d ∈ ds, ((upto (n d)).filterMap (r d)).length ≤ 500 := fun d hd => by
      have h1 := List.length_filterMap_le (r d) (upto (n d))
      have h2 := hz2 d hd
      rw [upto_len] at h1
      omega
    refine ⟨a, rfl, ⟨_, SqL.of ea⟩, fun D hD => ?_⟩
    refine ⟨fun i m H' => m = xs.length - i ∧ i ≤ xs.length ∧ Made H2 S1 D ((ds.take i).flatMap fun d => (upto (n d)).filterMap (r d)) H', ⟨_, rfl, Nat.zero_le _, Made.nil hD⟩, ?_⟩
    rintro i m H' ⟨rfl, hi, md⟩
    by_cases lt : i < xs.length
    · have hy : xs[i]? = some xs[i] := List.getElem?_eq_getElem lt
      obtain ⟨d, hd, od⟩ := oa.get hy
      have dm := List.mem_of_getElem? hd
      refine .inr ⟨⟨xs, _, SqL.of (md.same _ _ ea), hy⟩, fun H3 => Made H2 S1 D ((ds.take (i + 1)).flatMap fun d => (upto (n d)).filterMap (r d)) H3, fun H3 h3 => ⟨_, by omega, rfl, lt, h3⟩, ?_⟩
      rintro y H3 ⟨rfl, fy⟩
      have ey : y = xs[i] := Option.some.inj ((fy _ (SqL.of (md.same _ _ ea))).symm.trans hy)
      subst ey
      have lf := md.lift L2 hD
      have lf2 := (x.then k).trans lf
      refine ⟨hw _, (hn _ d _ _ dm lf2 (lf.ob od)).go lf2.live fun u H4 k4 o4 => ?_⟩
      have eu := o4.int_inv
      subst eu
      have hb := hz2 d dm
      refine ⟨_, rfl, by omega, by omega, ?_⟩
      have et : ((n d : Nat) : Int).toNat = n d := Int.toNat_natCast _
      rw [et]
      refine ⟨fun j k H' => k = n d - j ∧ j ≤ n d ∧ Made H2 S1 D (((ds.take i).flatMap fun d => (upto (n d)).filterMap (r d)) ++ ((upto (n d)).take j).filterMap (r d)) H', ⟨_, rfl, Nat.zero_le _, ?_⟩, ?_⟩
      · obtain ⟨vs, e, oc⟩ := md.acc
        refine ⟨md.same.trans k4, vs, k4 _ _ e, ?_⟩
        simpa using oc.same k4
      rintro j kk H5 ⟨rfl, hj, md5⟩
      by_cases jl : j < n d
      · refine .inr ⟨jl, fun H6 => Made H2 S1 D (((ds.take i).flatMap fun d => (upto (n d)).filterMap (r d)) ++ ((upto (n d)).take (j + 1)).filterMap (r d)) H6, fun H6 h6 => ⟨_, by omega, rfl, jl, h6⟩, ?_⟩
        rintro y H6 ⟨rfl, rfl⟩
        rw [Int.zero_add]
        have lf5 := md5.lift L2 hD
        have hg := upto_get jl
        refine hs _ d _ _ j dm jl ((x.then k).trans lf5) (lf5.ob od) _ _ (fun z e H7 er k7 o7 => ?_) fun H7 er k7 => ?_
        · have sz : (((ds.take i).flatMap fun d => (upto (n d)).filterMap (r d)) ++ ((upto (n d)).take j).filterMap (r d)).length < 1000000 := by
            have h1 := fm2_len ds _ hf i (by rw [oa.len] at lt; omega)
            have h2 := List.length_filterMap_le (r d) ((upto (n d)).take j)
            have h3 := List.length_take_le j (upto (n d))
            rw [List.length_append]
            have h4 : i < 1000 := by rw [oa.len] at lt; omega
            have h5 : i * 500 ≤ 1000 * 500 := Nat.mul_le_mul_right _ (by omega)
            omega
          obtain ⟨acc, e1, e2, m2⟩ := md5.step hD k7 o7 sz
          refine ⟨acc, e1, e2, ?_⟩
          rw [fm_succ hg, er, ← List.append_assoc]; exact m2
        · rw [fm_succ hg, er]
          show Made _ _ _ (_ ++ (_ ++ [])) _
          rw [List.append_nil]
          obtain ⟨vs, e, oc⟩ := md5.acc
          exact ⟨md5.same.trans k7, vs, k7 _ _ e, oc.same k7⟩
      · have ej : j = n d := by omega
        subst ej
        refine .inl ⟨Nat.le_refl _, ?_⟩
        have e2 : (upto (n d)).take (n d) = upto (n d) := List.take_of_length_le (by rw [upto_len]; exact Nat.le_refl _)
        rw [e2] at md5
        rw [fm2_succ hd]; exact md5
    · have ei : i = xs.length := by omega
      subst ei
      rw [oa.len, List.take_length] at md
      exact .inl ⟨⟨xs, SqL.of (md.same _ _ ea), Nat.le_refl _⟩, q _ _ (k.trans md.same) (md.done L2 hD)⟩
end
/-! ### data that can be compared -/
mutual
def pd : Dt → PyData
  | .non => .none
  | .bl b => .bool b
  | .int i => .int i
  | .str s => .str s
  | .lst ds => .list (pdAll ds)
  | .tup _ ds => .tuple (pdAll ds)
  | .dic => .none
  | .ins _ _ _ => .none
def pdAll : List Dt → List PyData
  | [] => []
  | d :: r => pd d :: pdAll r
end
theorem pdAll_map : ∀ ds : List Dt, pdAll ds = ds.map pd
  | [] => rfl
  | d :: r => by rw [pdAll, pdAll_map r]; rfl
mutual
theorem Oc.dp' {K : PySem.W.Frag} {H : Hp} {S : AS} : ∀ {v : V} {d : Dt}, Oc H S v d → d.pl = true → Dp K H v (pd d)
  | _, _, .non, _ => .non
  | _, _, .bl b, _ => .bl b
  | _, _, .int i, _ => .int i
  | _, _, .str s, _ => .str s
  | _, _, .lst e ne all, n => .lst (SqL.of e) (Ocs.dp' all (by rw [Dt.pl] at n; exact n))
  | _, _, .tup e ne all, n => .tup e.sq (Ocs.dp' all (by rw [Dt.pl] at n; exact n))
  | _, _, .ins _ _ _ _, n => (nomatch n)
theorem Ocs.dp' {K : PySem.W.Frag} {H : Hp} {S : AS} : ∀ {vs : List V} {ds : List Dt}, Ocs H S vs ds → Dt.plAll ds = true → DpAll K H vs (pdAll ds)
  | _, _, .nil, _ => .nil
  | _, _, .cons h t, n => .cons (Oc.dp' h (by rw [Dt.plAll, Bool.and_eq_true] at n; exact n.1)) (Ocs.dp' t (by rw [Dt.plAll, Bool.and_eq_true] at n; exact n.2))
end
theorem pl_of_map {α : Type} {f : α → Dt} (h : ∀ a, (f a).pl = true) (l : List α) : Dt.plAll (l.map f) = true := by
  induction l with
  | nil => rfl
  | cons d r ih => rw [List.map_cons, Dt.plAll, ih, h]; rfl
theorem Oc.dp {K : PySem.W.Frag} {H : Hp} {S : AS} {v : V} {d : Dt} (h : Oc H S v d) (n : d.pl = true := by first | rfl | exact pl_ints _ | exact pl_strs _) : Dp K H v (pd d) := h.dp' n
theorem Ocs.dp {K : PySem.W.Frag} {H : Hp} {S : AS} {vs : List V} {ds : List Dt} (h : Ocs H S vs ds) (n : Dt.plAll ds = true := by first | rfl | exact pl_ints _ | exact pl_strs _ | (refine pl_of_map ?_ _; intro a; first | rfl | exact pl_ints _ | exact pl_strs _)) : DpAll K H vs (pdAll ds) := h.dp' n
def minL : List Int → Int
  | [] => 0
  | x :: r => r.foldl min x
def maxL : List Int → Int
  | [] => 0
  | x :: r => r.foldl max x
/-! ### min of a list, max of a tuple -/
def rMinD (K : PySem.W.Frag) : List V → Hp → VK → Prop := fun vs H Q => ∃ (a : Addr) (xs : List V) (d : PyData) (ds : List PyData), vs = [.ref a] ∧ SqL K H a xs ∧ DpAll K H xs (d :: ds) ∧ AlikeAll (d :: ds) ∧ PyData.depthAll (d :: ds) ≤ 16 ∧
  ∀ (i : Nat) (v : V), xs[i]? = some v → (d :: ds)[i]? = some (minD d ds) → Q v H
theorem dp_at {K : PySem.W.Frag} {H : Hp} : ∀ {vs : List V} {ds : List PyData} {i : Nat} {v : V}, DpAll K H vs ds → vs[i]? = some v → ∃ d, ds[i]? = some d ∧ Dp K H v d
  | _, _, _, _, .nil, e => by simp at e
  | _, _, 0, _, .cons h _, e => by
    have e := Option.some.inj (show some _ = some _ from e)
    subst e; exact ⟨_, rfl, h⟩
  | _, _, i + 1, x, .cons _ t, e => dp_at (i := i) t (by simpa using e)
theorem vals_at : ∀ {vs : List V} {us : List Value} {i : Nat} {u : Value}, Vals vs us → us[i]? = some u → ∃ v, vs[i]? = some v ∧ RelV v u
  | _, _, _, _, .nil, e => by simp at e
  | _, _, 0, _, .cons h _, e => by
    have e := Option.some.inj (show some _ = some _ from e)
    subst e; exact ⟨_, rfl, h⟩
  | _, _, i + 1, x, .cons _ t, e => vals_at (i := i) t (by simpa using e)
theorem cr_minD {X : Cx} (K : PySem.W.Frag) (hc : X.calm = true) (hu : X.A.units + 64 < cLine) (h : X.K = K := by rfl) : CallR X (.builtin "min") (rMinD K) := by
  subst h
  intro pins s σ H vs us Q I r h
  obtain ⟨a, xs, d, ds, rfl, hs, hd, al, dp, q⟩ := h
  obtain ⟨its, rv, pl, hz⟩ := I.list hs
  obtain ⟨as, ra⟩ := Dp.readsAll I _ _ _ hd rv
  rw [Vals.ref1 r]
  refine min_list_data (I.ok.hd hc) pl.isList (by simpa using ra) al (by omega) fun i v h' tk bs hv hr hk => ?_
  have hv' : its[i]? = some v := by rw [← hv]; simp
  obtain ⟨y, hy, ry⟩ := vals_at rv hv'
  obtain ⟨e, he, de⟩ := dp_at hd hy
  obtain ⟨cs, re⟩ := Dp.reads I _ _ _ de ry
  have ee := (PySem.Reads.unique (reads_keeps hk re) _ _ hr).1
  subst ee
  exact ⟨y, H, I.kept (t' := tk) hk, ry, q i y hy he⟩
def rMaxT (K : PySem.W.Frag) : List V → Hp → VK → Prop := fun vs H Q => ∃ (a : Addr) (n : Int) (ns : List Int), vs = [.ref a] ∧ SqT K H a ((n :: ns).map V.int) ∧ Q (.int (ns.foldl max n)) H
theorem alike_int_all (ns : List Int) : AlikeAll (ns.map PyData.int) := by
  refine ⟨fun x hx y hy => ?_, fun x hx => ?_⟩
  · obtain ⟨i, _, rfl⟩ := List.mem_map.mp hx
    obtain ⟨j, _, rfl⟩ := List.mem_map.mp hy
    rfl
  · obtain ⟨i, _, rfl⟩ := List.mem_map.mp hx
    exact fun z => nomatch z
theorem dp_ints {K : PySem.W.Frag} {H : Hp} : ∀ ns : List Int, DpAll K H (ns.map V.int) (ns.map PyData.int)
  | [] => .nil
  | n :: r => .cons (.int n) (dp_ints r)
theorem cr_maxT {X : Cx} (K : PySem.W.Frag) (hc : X.calm = true) (hu : X.A.units + 64 < cLine) (h : X.K = K := by rfl) : CallR X (.builtin "max") (rMaxT K) := by
  subst h
  intro pins s σ H vs us Q I r h
  obtain ⟨a, n, ns, rfl, hs, q⟩ := h
  obtain ⟨its, rv, pl, hz⟩ := I.tuple hs
  obtain ⟨as, ra⟩ := Dp.readsAll I ((n :: ns).map .int) _ _ (dp_ints _) rv
  rw [Vals.ref1 r]
  have dz : PyData.depthAll (PyData.int n :: ns.map PyData.int) = 0 := depth_ints (n :: ns)
  refine max_tuple_data (x := .int n) (xs := ns.map .int) (I.ok.hd hc) pl (by simpa using ra) (alike_int_all (n :: ns)) (by rw [dz]; omega) fun i v h' tk bs hv hr hk => ?_
  rw [maxD_ints] at hr
  obtain ⟨t, rfl, _⟩ := reads_int_inv hr
  exact ⟨.int _, H, I.kept (t' := tk) hk, ⟨t, rfl⟩, q⟩
/-! ### rows of ints -/
def intT' (ns : List Int) : Dt := .tup true (ns.map Dt.int)
def intP (ns : List Int) : PyData := .tuple (ns.map PyData.int)
theorem pd_intT (ns : List Int) : pd (intT' ns) = intP ns := by
  show PyData.tuple (pdAll (ns.map Dt.int)) = _
  rw [pdAll_map, List.map_map]; rfl
def ltI : List Int → List Int → Bool
  | [], [] => false
  | [], _ :: _ => true
  | _ :: _, [] => false
  | x :: r, y :: t => decide (x < y) || (decide (x = y) && ltI r t)
theorem toks_intP (ns : List Int) : keyToks (intP ns) = keyToksAll (ns.map PyData.int) := by unfold intP; rw [keyToks]
theorem lt_toks : ∀ a b : List Int, PyProof.Rows.lexLt itemOrd (keyToksAll (a.map PyData.int)) (keyToksAll (b.map PyData.int)) = ltI a b
  | [], [] => by decide
  | [], y :: t => by
    rw [List.map_nil, List.map_cons, toks_all_cons, keyToksAll, lex_diff (O := itemOrd) (by intro z; cases z)]
    rfl
  | x :: r, [] => by
    rw [List.map_nil, List.map_cons, toks_all_cons, keyToksAll, lex_diff (O := itemOrd) (by intro z; cases z)]
    rfl
  | x :: r, y :: t => by
    rw [List.map_cons, List.map_cons, toks_all_cons, toks_all_cons, lex_self (O := itemOrd), keyToks, keyToks]
    show PyProof.Rows.lexLt itemOrd (Sum.inl x :: keyToksAll (r.map PyData.int)) (Sum.inl y :: keyToksAll (t.map PyData.int)) = _
    by_cases e : x = y
    · subst e
      rw [lex_self (O := itemOrd), lt_toks r t]
      simp [ltI]
    · rw [lex_diff (O := itemOrd) (fun z => e (Sum.inl.inj z))]
      show decide (x < y) = _
      simp [ltI, e]
theorem lt_rows (a b : List Int) : dataLt (intP a) (intP b) = ltI a b := by
  unfold dataLt
  rw [toks_intP, toks_intP, lt_toks]
def minR (x : List Int) (xs : List (List Int)) : List Int := xs.foldl (fun a y => if ltI y a then y else a) x
theorem min_rows (x : List Int) : ∀ xs : List (List Int), minD (intP x) (xs.map intP) = intP (minR x xs) := by
  intro xs
  unfold minD minR
  induction xs generalizing x with
  | nil => rfl
  | cons y r ih =>
    rw [List.map_cons, List.foldl_cons, List.foldl_cons, lt_rows]
    by_cases h : ltI y x = true
    · rw [if_pos h, if_pos h]; exact ih y
    · rw [if_neg h, if_neg h]; exact ih x
theorem alike_rows (rows : List (List Int)) : AlikeAll (rows.map intP) := by
  refine ⟨fun x hx y hy => ?_, fun x hx => ?_⟩
  · obtain ⟨i, _, rfl⟩ := List.mem_map.mp hx
    obtain ⟨j, _, rfl⟩ := List.mem_map.mp hy
    show alike (.tuple _) (.tuple _) = true
    rw [alike]; exact alike_ints i j
  · obtain ⟨i, _, rfl⟩ := List.mem_map.mp hx
    exact fun z => nomatch z
theorem depth_rows : ∀ rows : List (List Int), PyData.depthAll (rows.map intP) ≤ 1
  | [] => by simp [PyData.depthAll]
  | x :: r => by
    rw [List.map_cons, PyData.depthAll]
    have h := depth_rows r
    have h2 : PyData.depth (intP x) = 1 := by unfold intP; rw [PyData.depth, depth_ints]
    omega
theorem intP_inj {a b : List Int} (h : intP a = intP b) : a = b := by
  have h1 := PyData.tuple.inj h
  induction a generalizing b with
  | nil =>
    cases b with
    | nil => rfl
    | cons y t => simp at h1
  | cons x r ih =>
    cases b with
    | nil => simp at h1
    | cons y t =>
      simp only [List.map_cons, List.cons.injEq, PyData.int.injEq] at h1
      rw [h1.1, ih (by unfold intP; rw [h1.2]) h1.2]
theorem ocs_rows_dp {K : PySem.W.Frag} {H : Hp} {S : AS} {xs : List V} {rows : List (List Int)} (h : Ocs H S xs (rows.map intT')) : DpAll K H xs (rows.map intP) := by
  have := h.dp (K := K)
  rw [pdAll_map, List.map_map] at this
  have e : (rows.map (pd ∘ intT')) = rows.map intP := List.map_congr_left fun x _ => pd_intT x
  rw [e] at this
  exact this
theorem D_minRows {σ : L2.St} {H : Hp} {S : AS} {K : PySem.W.Frag} {tl : TE} {x : List Int} {xs : List (List Int)} (hl : DE tl σ H S (.lst ((x :: xs).map intT'))) : DE (tCB (rMinD K) (tCons tl tNil)) σ H S (intT' (minR x xs)) := fun H1 S1 Q y q =>
  hl H1 S1 _ y fun v H2 k o => by
    obtain ⟨a, ys, rfl, ea, na, oa⟩ := o.lst_inv
    refine ⟨a, ys, intP x, xs.map intP, rfl, SqL.of ea, ocs_rows_dp oa, alike_rows (x :: xs), Nat.le_trans (depth_rows (x :: xs)) (by decide), fun i v hv hm => ?_⟩
    obtain ⟨d, hd, od⟩ := oa.get hv
    rw [List.getElem?_map] at hd
    obtain ⟨row, hr, rfl⟩ := Option.map_eq_some_iff.mp hd
    have hm2 : ((x :: xs).map intP)[i]? = some (minD (intP x) (xs.map intP)) := hm
    rw [List.getElem?_map, hr, min_rows] at hm2
    have e := intP_inj (Option.some.inj hm2)
    subst e
    exact q _ _ k od
/-! ### == of data -/
theorem op_eqDK {X : Cx} (K : PySem.W.Frag) (hu : X.A.units + 64 < cLine) (h : X.K = K := by rfl) : OpR X (compareOp .Eq) (rEqD K) := h ▸ op_eqD hu
theorem op_neDK {X : Cx} (K : PySem.W.Frag) (hu : X.A.units + 64 < cLine) (h : X.K = K := by rfl) : OpR X (compareOp .NotEq) (rNeD K) := h ▸ op_neD hu
theorem op_ninK {X : Cx} (K : PySem.W.Frag) (h : X.K = K := by rfl) : OpR X (compareOp .NotIn) (rIn K true) := h ▸ op_notIn_seq
theorem op_inK {X : Cx} (K : PySem.W.Frag) (h : X.K = K := by rfl) : OpR X (compareOp .In) (rIn K false) := h ▸ op_in_seq
theorem shaped_row (a : List Int) : SeqAt.shaped (intP a) = true := by
  unfold SeqAt.shaped intP
  have e : PyData.canLayAll0 (a.map PyData.int) = true := by
    induction a with
    | nil => rfl
    | cons x r ih => rw [List.map_cons, PyData.canLayAll0, ih]; rfl
  rw [PyData.canLay0, e, PyData.depth, depth_ints]; rfl
theorem eqv_ints : ∀ a b : List Int, PyData.eqvAll (a.map PyData.int) (b.map PyData.int) = decide (a = b)
  | [], [] => by decide
  | [], y :: t => by simp [PyData.eqvAll]
  | x :: r, [] => by simp [PyData.eqvAll]
  | x :: r, y :: t => by
    rw [List.map_cons, List.map_cons, eqv_all_cons, eqv_ints r t]
    by_cases h : x = y
    · subst h
      have : PyData.eqv (.int x) (.int x) = true := by simp [PyData.eqv]
      rw [this]; simp
    · have : PyData.eqv (.int x) (.int y) = false := by simp [PyData.eqv, h]
      rw [this]; simp [h]
theorem eqv_rows (a b : List Int) : PyData.eqv (intP a) (intP b) = decide (a = b) := by
  unfold intP
  rw [PyData.eqv, eqv_ints]
theorem T_eqRow {σ : L2.St} {H : Hp} {S : AS} {K : PySem.W.Frag} {ta tb : TE} {a b : List Int} (ha : DE ta σ H S (intT' a)) (hb : DE tb σ H S (intT' b)) : DT (tTest (tOp (rEqD K) ta tb)) σ H S (decide (a = b)) := fun H1 S1 Q x q =>
  ha H1 S1 _ x fun v H2 k o => (hb.lift (x.then k)).go (Lv.same k x.live) fun u H3 k3 o3 => by
    have e1 := (o.same k3).dp (K := K)
    have e2 := o3.dp (K := K)
    rw [pd_intT] at e1 e2
    refine ⟨_, _, e1, e2, shaped_row a, shaped_row b, _, rfl, ?_⟩
    rw [eqv_rows]
    exact q _ (k.trans k3)
theorem op_catFK {X : Cx} (K : PySem.W.Frag) (h : X.K = K := by rfl) : OpR X (binaryOp .Add) (rCatF K) := h ▸ op_catF
theorem pi_listK {X : Cx} (K : PySem.W.Frag) {tg l : Expr} {tl : TE} (hl : PE X l tl) (h : X.K = K := by rfl) : PI X tg l (iList K tl) := h ▸ pi_list hl
theorem pi_tupK {X : Cx} (K : PySem.W.Frag) {tg l : Expr} {tl : TE} (hl : PE X l tl) (h : X.K = K := by rfl) : PI X tg l (iTup K tl) := h ▸ pi_tup hl
theorem pe_tupleOfFK {X : Cx} (K : PySem.W.Frag) {a : Expr} {ta : TE} {p pos : Pos} (hg : Gl X "tuple") (hm : X.mg "tuple" = none) (ha : PE X a ta) (h : X.K = K := by rfl) (na : starEach [a] X.env = (false, eval a X.env) :: starEach [] X.env := by rfl) : PE X (.Call (.Name "tuple" p) [a] [] pos) (tTupOfF K ta) := h ▸ pe_tupleOfF hg hm ha na
theorem cr_allK {X : Cx} (K : PySem.W.Frag) (hc : X.calm = true) (h : X.K = K := by rfl) : CallR X (.builtin "all") (rAll K) := h ▸ cr_all hc
theorem cr_anyK {X : Cx} (K : PySem.W.Frag) (hc : X.calm = true) (h : X.K = K := by rfl) : CallR X (.builtin "any") (rAny K) := h ▸ cr_any hc
theorem minL_of {ns : List Int} {m : Int} (hm : m ∈ ns) (h : ∀ y ∈ ns, m ≤ y) : m = minL ns := by
  cases ns with
  | nil => cases hm
  | cons x r =>
    have key : ∀ (r : List Int) (x : Int), (r.foldl min x ∈ x :: r) ∧ ∀ y ∈ x :: r, r.foldl min x ≤ y := by
      intro r
      induction r with
      | nil => intro x; exact ⟨List.mem_singleton.mpr rfl, fun y hy => by rw [List.mem_singleton.mp hy]; exact Int.le_refl _⟩
      | cons z t ih =>
        intro x
        obtain ⟨a, b⟩ := ih (min x z)
        rw [List.foldl_cons]
        refine ⟨?_, fun y hy => ?_⟩
        · rcases List.mem_cons.mp a with e | e
          · rcases Int.le_total x z with h | h
            · rw [e, Int.min_eq_left h]; exact List.mem_cons_self
            · rw [e, Int.min_eq_right h]; exact List.mem_cons_of_mem _ List.mem_cons_self
          · exact List.mem_cons_of_mem _ (List.mem_cons_of_mem _ e)
        · have hb := b _ List.mem_cons_self
          rcases List.mem_cons.mp hy with rfl | hy
          · omega
          · rcases List.mem_cons.mp hy with rfl | hy
            · omega
            · exact b _ (List.mem_cons_of_mem _ hy)
    obtain ⟨a, b⟩ := key r x
    show m = r.foldl min x
    have h1 := h _ a
    have h2 := b _ hm
    omega
theorem D_minInts {σ : L2.St} {H : Hp} {S : AS} {K : PySem.W.Frag} {tl : TE} {ns : List Int} (hl : DE tl σ H S (.lst (ns.map Dt.int))) (hne : ns ≠ []) : DE (tCB (rMin K) (tCons tl tNil)) σ H S (.int (minL ns)) := fun H1 S1 Q y q =>
  hl H1 S1 _ y fun v H2 k o => by
    obtain ⟨a, ys, rfl, ea, na, oa⟩ := o.lst_inv
    have e := oa.ints
    subst e
    refine ⟨a, ns, rfl, SqL.of ea, List.length_pos_iff.mpr hne, fun m hm hle => ?_⟩
    rw [minL_of hm hle]
    exact q _ _ k (.int _)
theorem D_fn {sp : Sp} {E : XK} {ta : TA} {σ : L2.St} {H : Hp} {S : AS} {ds : List Dt} {d : Dt} (ha : DA ta σ H S ds) (h : ∀ H1 S1 vs (Q : VK), Lift H S H1 S1 → Ocs H1 S1 vs ds → (∀ v H2, Same H1 H2 → Oc H2 S1 v d → Q v H2) → sp vs H1 Q E) : DE (tCall sp [] E ta) σ H S d := fun H1 S1 Q x q =>
  ha H1 S1 _ x fun vs H2 k o => by
    show sp (vs ++ []) H2 Q E
    rw [List.append_nil]
    exact h H2 S1 vs Q (x.then k) o fun v H3 k3 o3 => q _ _ (k.trans k3) o3
theorem Ocs.one {H : Hp} {S : AS} {vs : List V} {d : Dt} (h : Ocs H S vs [d]) : ∃ v, vs = [v] ∧ Oc H S v d := by
  cases h with
  | cons h t => cases t; exact ⟨_, rfl, h⟩
theorem Ocs.two {H : Hp} {S : AS} {vs : List V} {d e : Dt} (h : Ocs H S vs [d, e]) : ∃ v u, vs = [v, u] ∧ Oc H S v d ∧ Oc H S u e := by
  cases h with
  | cons h t =>
    obtain ⟨u, rfl, o⟩ := t.one
    exact ⟨_, _, rfl, h, o⟩
theorem Ocs.three {H : Hp} {S : AS} {vs : List V} {d e f : Dt} (h : Ocs H S vs [d, e, f]) : ∃ v u x, vs = [v, u, x] ∧ Oc H S v d ∧ Oc H S u e ∧ Oc H S x f := by
  cases h with
  | cons h t =>
    obtain ⟨u, x, rfl, o, p⟩ := t.two
    exact ⟨_, _, _, rfl, h, o, p⟩
theorem le_maxL {ns : List Int} {m : Int} (hm : m ∈ ns) : m ≤ maxL ns := by
  cases ns with
  | nil => cases hm
  | cons x r =>
    have key : ∀ (r : List Int) (x : Int), ∀ y ∈ x :: r, y ≤ r.foldl max x := by
      intro r
      induction r with
      | nil => intro x y hy; rw [List.mem_singleton.mp hy]; exact Int.le_refl _
      | cons z t ih =>
        intro x y hy
        have b := ih (max x z)
        rw [List.foldl_cons]
        have hb := b _ List.mem_cons_self
        rcases List.mem_cons.mp hy with rfl | hy
        · omega
        · rcases List.mem_cons.mp hy with rfl | hy
          · omega
          · exact b _ (List.mem_cons_of_mem _ hy)
    exact key r x m hm
theorem D_maxInts {σ : L2.St} {H : Hp} {S : AS} {K : PySem.W.Frag} {tl : TE} {ns : List Int} {m : Nat} (hl : DE tl σ H S (intT' ns)) (hm : maxL ns = m) (hne : ns ≠ [] := by first | assumption | (rintro rfl; simp_all)) : DE (tCB (rMaxT K) (tCons tl tNil)) σ H S (.int (m : Nat)) := fun H1 S1 Q y q =>
  hl H1 S1 _ y fun v H2 k o => by
    obtain ⟨a, ys, rfl, ea, na, oa⟩ := o.tup_inv
    have e := oa.ints
    subst e
    cases ns with
    | nil => exact absurd rfl hne
    | cons x r => exact ⟨a, x, r, rfl, ea.sq, q _ _ k (by rw [← hm]; exact .int _)⟩
theorem D_catL {σ : L2.St} {H : Hp} {S : AS} {ta tb : TE} {ds es : List Dt} (ha : DE ta σ H S (.lst ds)) (hb : DE tb σ H S (.lst es)) (hz : ds.length + es.length ≤ 1000000) : DE (tOp rCat ta tb) σ H S (.lst (ds ++ es)) := fun H1 S1 Q x q =>
  ha H1 S1 _ x fun v H2 k o => (hb.lift (x.then k)).go (Lv.same k x.live) fun u H3 k3 o3 => by
    obtain ⟨a, xs, rfl, ea, na, oa⟩ := o.lst_inv
    obtain ⟨b, ys, rfl, eb, nb, ob⟩ := o3.lst_inv
    have la := oa.len
    have lb := ob.len
    have oa' := oa.same k3
    refine ⟨a, b, xs, ys, rfl, rfl, k3 _ _ ea, eb, Nat.le_trans (show _ ≤ 1000000 by omega) (by decide), fun p hp => ?_⟩
    exact q _ _ ((k.trans k3).trans (same_upd hp)) (.lst upd_same (Lv.out (Lv.same k3 (Lv.same k x.live)) hp) ((oa'.append ob).same (same_upd hp)))
theorem fl_len {α : Type} (ds : List α) (f : α → List (List Int)) (m : Nat) (h : ∀ d ∈ ds, (f d).length ≤ m) : (ds.flatMap f).length ≤ ds.length * m := by
  induction ds with
  | nil => simp
  | cons d r ih =>
    have h1 := ih fun y hy => h y (List.mem_cons_of_mem _ hy)
    have h2 := h d List.mem_cons_self
    rw [List.flatMap_cons, List.length_append, List.length_cons, Nat.succ_mul]
    omega
theorem D_call {te : TE} {σ : L2.St} {H : Hp} {S : AS} {d : Dt} (h : ∀ (H1 : Hp) (S1 : AS) (Q : VK), Lift H S H1 S1 → (∀ v H2, Same H1 H2 → Oc H2 S1 v d → Q v H2) → te σ H1 Q) : DE te σ H S d := h
theorem S_setQ {te : TE} {i : Nat} {σ : L2.St} {H : Hp} {u : TS} {D : Ends} (h : te σ H fun v H2 => u D (σ.set i (some v)) H2) : tSeq (tAsg te (gName i)) u D σ H := h
/-- >= of data -/
def rGeD (K : PySem.W.Frag) : R2 := fun x y H Q => ∃ d e, Dp K H x d ∧ Dp K H y e ∧ alike d e = true ∧ d ≠ .none ∧ min d.depth e.depth ≤ 32 ∧ Q (.bl (!dataLt d e)) H
theorem op_geD {X : Cx} (K : PySem.W.Frag) (hu : X.A.units + 64 < cLine) (h : X.K = K := by rfl) : OpR X (compareOp .GtE) (rGeD K) := by
  subst h
  intro pins s σ H x y v u Q I rx ry h
  obtain ⟨d, e, hd, he, al, nn, dp, q⟩ := h
  obtain ⟨as, r1⟩ := Dp.reads I d x v hd rx
  obtain ⟨bs, r2⟩ := Dp.reads I e y u he ry
  exact ge_data r1 r2 al nn (by omega) ⟨.bl _, H, I, rfl, q⟩
theorem op_inDK {X : Cx} (K : PySem.W.Frag) (hu : X.A.units + 65 < cLine) (h : X.K = K := by rfl) : OpR X (compareOp .In) (rInD K) := h ▸ op_inD hu
theorem any_rows (a : List Int) : ∀ rows : List (List Int), ((rows.map intP).any fun z => PyData.eqv z (intP a)) = decide (a ∈ rows)
  | [] => rfl
  | r :: t => by
    rw [List.map_cons, List.any_cons, any_rows a t, eqv_rows]
    by_cases h : r = a
    · subst h; simp
    · have h2 : ¬ a = r := fun z => h z.symm
      simp [h, h2]
theorem shaped_rows (rows : List (List Int)) : SeqAt.shaped (.list (rows.map intP)) = true := by
  unfold SeqAt.shaped
  have e : PyData.canLayAll0 (rows.map intP) = true := by
    induction rows with
    | nil => rfl
    | cons x r ih =>
      rw [List.map_cons, PyData.canLayAll0, ih]
      have h := shaped_row x
      unfold SeqAt.shaped at h
      rw [Bool.and_eq_true] at h
      rw [h.1]; rfl
  have d := depth_rows rows
  rw [PyData.canLay0, e, PyData.depth, Bool.true_and, decide_eq_true_eq]
  omega
theorem T_inRows {σ : L2.St} {H : Hp} {S : AS} {K : PySem.W.Frag} {ta tb : TE} {a : List Int} {rows : List (List Int)} (ha : DE ta σ H S (intT' a)) (hb : DE tb σ H S (.lst (rows.map intT'))) : DT (tTest (tOp (rInD K) ta tb)) σ H S (decide (a ∈ rows)) := fun H1 S1 Q x q =>
  ha H1 S1 _ x fun v H2 k o => (hb.lift (x.then k)).go (Lv.same k x.live) fun u H3 k3 o3 => by
    have e1 := (o.same k3).dp (K := K)
    rw [pd_intT] at e1
    obtain ⟨b, ys, rfl, eb, nb, ob⟩ := o3.lst_inv
    refine ⟨intP a, rows.map intP, e1, .lst (SqL.of eb) (ocs_rows_dp ob), shaped_row a, shaped_rows rows, _, rfl, ?_⟩
    rw [any_rows]
    exact q _ (k.trans k3)
theorem units65 {k : Nat} {A : Around} (r : Room k A) : A.units + 65 < cLine := by have := r.un; omega
theorem eqv_lrows : ∀ a b : List (List Int), PyData.eqvAll (a.map intP) (b.map intP) = decide (a = b)
  | [], [] => by decide
  | [], y :: t => by simp [PyData.eqvAll]
  | x :: r, [] => by simp [PyData.eqvAll]
  | x :: r, y :: t => by
    rw [List.map_cons, List.map_cons, eqv_all_cons, eqv_lrows r t, eqv_rows]
    by_cases h : x = y
    · subst h; simp
    · simp [h]
theorem eqv_lists (a b : List (List Int)) : PyData.eqv (.list (a.map intP)) (.list (b.map intP)) = decide (a = b) := by rw [PyData.eqv, eqv_lrows]
theorem Oc.rows_dp {H : Hp} {S : AS} {K : PySem.W.Frag} {v : V} {rows : List (List Int)} (h : Oc H S v (.lst (rows.map intT'))) : Dp K H v (.list (rows.map intP)) := by
  obtain ⟨a, xs, rfl, ea, na, oa⟩ := h.lst_inv
  exact .lst (SqL.of ea) (ocs_rows_dp oa)
theorem D_eqL {σ : L2.St} {H : Hp} {S : AS} {K : PySem.W.Frag} {ta tb : TE} {a b : List (List Int)} (ha : DE ta σ H S (.lst (a.map intT'))) (hb : DE tb σ H S (.lst (b.map intT'))) : DE (tOp (rEqD K) ta tb) σ H S (.bl (decide (a = b))) := fun H1 S1 Q x q =>
  ha H1 S1 _ x fun v H2 k o => (hb.lift (x.then k)).go (Lv.same k x.live) fun u H3 k3 o3 => by
    refine ⟨_, _, (o.same k3).rows_dp, o3.rows_dp, shaped_rows a, shaped_rows b, ?_⟩
    rw [eqv_lists]
    exact q _ _ (k.trans k3) (.bl _)
theorem T_neRow {σ : L2.St} {H : Hp} {S : AS} {K : PySem.W.Frag} {ta tb : TE} {a b : List Int} (ha : DE ta σ H S (intT' a)) (hb : DE tb σ H S (intT' b)) : DT (tTest (tOp (rNeD K) ta tb)) σ H S (!decide (a = b)) := fun H1 S1 Q x q =>
  ha H1 S1 _ x fun v H2 k o => (hb.lift (x.then k)).go (Lv.same k x.live) fun u H3 k3 o3 => by
    have e1 := (o.same k3).dp (K := K)
    have e2 := o3.dp (K := K)
    rw [pd_intT] at e1 e2
    refine ⟨_, _, e1, e2, shaped_row a, shaped_row b, _, rfl, ?_⟩
    rw [eqv_rows]
    exact q _ (k.trans k3)
theorem DT.go {tt : TT} {σ : L2.St} {H : Hp} {S : AS} {b : Bool} {Q : Bool → Hp → Prop} (h : DT tt σ H S b) (l : Lv H S) (q : ∀ H2, Same H H2 → Q b H2) : tt σ H Q := h H S Q (Lift.refl l) q
theorem T_geRow {σ : L2.St} {H : Hp} {S : AS} {K : PySem.W.Frag} {ta tb : TE} {a b : List Int} (ha : DE ta σ H S (intT' a)) (hb : DE tb σ H S (intT' b)) : DT (tTest (tOp (rGeD K) ta tb)) σ H S (!ltI a b) := fun H1 S1 Q x q =>
  ha H1 S1 _ x fun v H2 k o => (hb.lift (x.then k)).go (Lv.same k x.live) fun u H3 k3 o3 => by
    have e1 := (o.same k3).dp (K := K)
    have e2 := o3.dp (K := K)
    rw [pd_intT] at e1 e2
    refine ⟨_, _, e1, e2, (alike_rows [a, b]).1 _ (by simp) _ (by simp), fun z => (by unfold intP at z; exact nomatch z), ?_, _, rfl, ?_⟩
    · have h2 : PyData.depth (intP a) = 1 := by unfold intP; rw [PyData.depth, depth_ints]
      omega
    · rw [lt_rows]
      exact q _ (k.trans k3)
theorem S_set {te : TE} {i : Nat} {σ : L2.St} {H : Hp} {S : AS} {d : Dt} {u : TS} {D : Ends} (h : DE te σ H S d) (lv : Lv H S) (k : ∀ v H2, Same H H2 → Oc H2 S v d → u D (σ.set i (some v)) H2) : tSeq (tAsg te (gName i)) u D σ H := h.go lv k
theorem S_set1 {te : TE} {i : Nat} {σ : L2.St} {H : Hp} {S : AS} {d : Dt} {D : Ends} (h : DE te σ H S d) (lv : Lv H S) (k : ∀ v H2, Same H H2 → Oc H2 S v d → D.nx (σ.set i (some v)) H2) : tAsg te (gName i) D σ H := h.go lv k
theorem S_ret {te : TE} {σ : L2.St} {H : Hp} {S : AS} {d : Dt} {D : Ends} (h : DE te σ H S d) (lv : Lv H S) (k : ∀ v H2, Same H H2 → Oc H2 S v d → D.rt v H2) : tRet te D σ H := h.go lv k
/-- i not in (a tuple of ints) -/
theorem inV_ints (i : Int) : ∀ ns : List Int, inV (.int i) (ns.map V.int) = decide (i ∈ ns)
  | [] => rfl
  | n :: r => by
    have ih := inV_ints i r
    unfold inV at ih ⊢
    rw [List.map_cons, List.any_cons, ih]
    show ((n == i) || decide (i ∈ r)) = decide (i ∈ n :: r)
    by_cases e : n = i
    · subst e; simp
    · have e2 : (n == i) = false := beq_eq_false_iff_ne.mpr e
      have e3 : ¬ i = n := fun z => e z.symm
      rw [e2, Bool.false_or]
      simp [e3]
theorem flat_ints : ∀ ns : List Int, (ns.map V.int).all flatV = true
  | [] => rfl
  | n :: r => by rw [List.map_cons, List.all_cons, flat_ints r]; rfl
theorem T_nin {σ : L2.St} {H : Hp} {S : AS} {K : PySem.W.Frag} {ta tb : TE} {i : Int} {ns : List Int} (ha : DE ta σ H S (.int i)) (hb : DE tb σ H S (intT' ns)) : DT (tTest (tOp (rIn K true) ta tb)) σ H S (!decide (i ∈ ns)) := fun H1 S1 Q x q =>
  ha H1 S1 _ x fun v H2 k o => (hb.lift (x.then k)).go (Lv.same k x.live) fun u H3 k3 o3 => by
    have e := o.int_inv
    subst e
    obtain ⟨a, xs, rfl, ea, na, oa⟩ := o3.tup_inv
    have ex := oa.ints
    subst ex
    refine ⟨a, _, rfl, .inr ea.sq, rfl, flat_ints ns, _, rfl, ?_⟩
    have e : (if true = true then !inV (V.int i) (ns.map V.int) else inV (V.int i) (ns.map V.int)) = !decide (i ∈ ns) := by
      rw [if_pos rfl, inV_ints]
    rw [e]
    exact q _ (k.trans k3)
/-- t[i] -/
theorem D_ixT {σ : L2.St} {H : Hp} {S : AS} {K : PySem.W.Frag} {ta tb : TE} {ds : List Dt} {z : Bool} {i : Nat} {d : Dt} (ha : DE ta σ H S (.tup z ds)) (hb : DE tb σ H S (.int (i : Nat))) (hd : ds[i]? = some d) : DE (tOp (rIxT K) ta tb) σ H S d := fun H1 S1 Q x q =>
  ha H1 S1 _ x fun v H2 k o => (hb.lift (x.then k)).go (Lv.same k x.live) fun u H3 k3 o3 => by
    have e := o3.int_inv
    subst e
    obtain ⟨a, xs, rfl, ea, na, oa⟩ := (o.same k3).tup_inv
    obtain ⟨w, hw, ow⟩ := oa.at hd
    exact ⟨a, xs, _, w, rfl, rfl, ea.sq, atI_nat hw, q _ _ (k.trans k3) ow⟩
theorem D_ixL {σ : L2.St} {H : Hp} {S : AS} {K : PySem.W.Frag} {ta tb : TE} {ds : List Dt} {i : Nat} {d : Dt} (ha : DE ta σ H S (.lst ds)) (hb : DE tb σ H S (.int (i : Nat))) (hd : ds[i]? = some d) : DE (tOp (rIxL K) ta tb) σ H S d := fun H1 S1 Q x q =>
  ha H1 S1 _ x fun v H2 k o => (hb.lift (x.then k)).go (Lv.same k x.live) fun u H3 k3 o3 => by
    have e := o3.int_inv
    subst e
    obtain ⟨a, xs, rfl, ea, na, oa⟩ := (o.same k3).lst_inv
    obtain ⟨w, hw, ow⟩ := oa.at hd
    exact ⟨a, xs, _, w, rfl, rfl, SqL.of ea, atI_nat hw, q _ _ (k.trans k3) ow⟩
end Lc
namespace Lc
open PySem PySem.Spec PyProof.Rows L2 RZ PySem.W
/-! ### ints, each once, ascending -/
def insU (x : Int) : List Int → List Int
  | [] => [x]
  | y :: r => if x < y then x :: y :: r else if x = y then y :: r else y :: insU x r
def sortU (xs : List Int) : List Int := xs.foldr insU []
theorem mem_insU {x k : Int} : ∀ {r : List Int}, k ∈ insU x r ↔ k = x ∨ k ∈ r
  | [] => by simp [insU]
  | y :: r => by
    unfold insU
    split
    · simp
    · split
      · rename_i h; subst h; simp
      · rw [List.mem_cons, mem_insU, List.mem_cons]
        constructor
        · rintro (h | h | h)
          · exact .inr (.inl h)
          · exact .inl h
          · exact .inr (.inr h)
        · rintro (h | h | h)
          · exact .inr (.inl h)
          · exact .inl h
          · exact .inr (.inr h)
theorem mem_sortU {k : Int} : ∀ {xs : List Int}, k ∈ sortU xs ↔ k ∈ xs
  | [] => by simp [sortU]
  | x :: r => by
    show k ∈ insU x (sortU r) ↔ _
    rw [mem_insU, mem_sortU, List.mem_cons]
theorem pw_insU {x : Int} : ∀ {r : List Int}, r.Pairwise (· < ·) → (insU x r).Pairwise (· < ·)
  | [], _ => by simp [insU]
  | y :: r, h => by
    obtain ⟨h1, h2⟩ := List.pairwise_cons.mp h
    unfold insU
    split
    · rename_i lt
      refine List.pairwise_cons.mpr ⟨fun z hz => ?_, h⟩
      rcases List.mem_cons.mp hz with rfl | hz
      · exact lt
      · exact Int.lt_trans lt (h1 z hz)
    · split
      · exact h
      · refine List.pairwise_cons.mpr ⟨fun z hz => ?_, pw_insU h2⟩
        rcases mem_insU.mp hz with rfl | hz
        · omega
        · exact h1 z hz
theorem pw_sortU : ∀ xs : List Int, (sortU xs).Pairwise (· < ·)
  | [] => List.Pairwise.nil
  | x :: r => pw_insU (pw_sortU r)
theorem insU_len (x : Int) : ∀ r : List Int, (insU x r).length ≤ r.length + 1
  | [] => by simp [insU]
  | y :: r => by
    unfold insU
    split
    · simp
    · split
      · simp
      · have := insU_len x r
        simp only [List.length_cons]; omega
theorem sortU_len : ∀ xs : List Int, (sortU xs).length ≤ xs.length
  | [] => Nat.le_refl _
  | x :: r => by
    have h1 := insU_len x (sortU r)
    have h2 := sortU_len r
    show (insU x (sortU r)).length ≤ _
    rw [List.length_cons]; omega
theorem fl_len2 {α β : Type} (ds : List α) (f : α → List β) (m : Nat) (h : ∀ d ∈ ds, (f d).length ≤ m) : (ds.flatMap f).length ≤ ds.length * m := by
  induction ds with
  | nil => simp
  | cons d r ih =>
    have h1 := ih fun y hy => h y (List.mem_cons_of_mem _ hy)
    have h2 := h d List.mem_cons_self
    rw [List.flatMap_cons, List.length_append, List.length_cons, Nat.succ_mul]
    omega
theorem up_unique : ∀ {a b : List Int}, a.Pairwise (· < ·) → b.Pairwise (· < ·) → (∀ k, k ∈ a ↔ k ∈ b) → a = b
  | [], [], _, _, _ => rfl
  | [], y :: t, _, _, h => absurd ((h y).mpr List.mem_cons_self) (by simp)
  | x :: r, [], _, _, h => absurd ((h x).mp List.mem_cons_self) (by simp)
  | x :: r, y :: t, ha, hb, h => by
    obtain ⟨a1, a2⟩ := List.pairwise_cons.mp ha
    obtain ⟨b1, b2⟩ := List.pairwise_cons.mp hb
    have e : x = y := by
      rcases List.mem_cons.mp ((h x).mp List.mem_cons_self) with e | e
      · exact e
      · rcases List.mem_cons.mp ((h y).mpr List.mem_cons_self) with e2 | e2
        · exact e2.symm
        · have := b1 x e
          have := a1 y e2
          omega
    subst e
    refine congrArg _ (up_unique a2 b2 fun k => ⟨fun hk => ?_, fun hk => ?_⟩)
    · rcases List.mem_cons.mp ((h k).mp (List.mem_cons_of_mem _ hk)) with rfl | e
      · exact absurd (a1 _ hk) (Int.lt_irrefl _)
      · exact e
    · rcases List.mem_cons.mp ((h k).mpr (List.mem_cons_of_mem _ hk)) with rfl | e
      · exact absurd (b1 _ hk) (Int.lt_irrefl _)
      · exact e
section
variable {σ : L2.St} {H : Hp} {S : AS} {K : PySem.W.Frag} {w : World}
/-- the members so far, at D -/
structure SetAt (w : World) (H2 : Hp) (D : Addr) (L : List Int) (H' : Hp) : Prop where
  same : Same H2 H'
  ex : ∃ n, H' D = some (SetO w D (fun k => decide (k ∈ L)) n) ∧ n ≤ L.length
theorem SetAt.nil {H2 : Hp} {D : Addr} (hD : H2 D = none) : SetAt w H2 D [] (upd H2 D (LcC.sO w D)) := ⟨same_upd hD, 0, by
  rw [upd_same]
  have e : (fun k : Int => decide (k ∈ ([] : List Int))) = fun _ => false := by funext k; simp
  rw [e], Nat.le_refl _⟩
theorem SetAt.lift {H2 H' : Hp} {D : Addr} {L : List Int} (l : Lv H2 S) (hD : H2 D = none) (m : SetAt w H2 D L H') : Lift H2 S H' (And1 S D) := by
  refine ⟨fun h => (h.add hD).same m.same, fun a ha z => ?_, fun a h => .inl h, m.same⟩
  rcases ha with ha | ha
  · exact Lv.same m.same l a ha z
  · obtain ⟨n, e, _⟩ := m.ex
    rw [ha, e] at z; cases z
theorem SetAt.step {H2 H' H4 : Hp} {D : Addr} {L : List Int} {k : Int} (hD : H2 D = none) (m : SetAt w H2 D L H') (s : Same H' H4) (hz : L.length ≤ 60) :
    ∃ (S : Int → Bool) (n : Nat), H4 D = some (SetO w D S n) ∧ n + 1 < scanBound ∧ SetAt w H2 D (L ++ [k]) (upd H4 D (SetO w D (fun j => S j || decide (j = k)) (if S k = true then n else n + 1))) := by
  obtain ⟨n, e, hn⟩ := m.ex
  refine ⟨_, n, s _ _ e, by unfold scanBound; omega, fun b o hb => ?_, (if decide (k ∈ L) = true then n else n + 1), ?_, ?_⟩
  · rw [upd_ne (ne_of_none hb hD)]
    exact s _ _ (m.same _ _ hb)
  · rw [upd_same]
    have e2 : (fun j : Int => decide (j ∈ L) || decide (j = k)) = fun j => decide (j ∈ L ++ [k]) := by funext j; simp
    rw [e2]
  · rw [List.length_append]; show _ ≤ L.length + 1; split <;> omega
theorem D_sortSc2 {i0 i1 ic : Nat} {te tn : TE} {cs : List Int} {n : Int → Nat} {f : Int → Nat → Int} {v : V} (hv : σ[ic]? = some (some v)) (ov : Oc H S v (intT' cs)) (h3 : cs.length ≤ 3) (hn5 : ∀ c ∈ cs, n c ≤ 5)
    (hw : ∀ v : V, wipe ((wipe σ [i0, i1]).set i0 (some v)) [i0, i1] = wipe σ [i0, i1]) (hw2 : ∀ v u : V, wipe ((wipe ((wipe σ [i0, i1]).set i0 (some v)) [i1]).set i1 (some u)) [i1] = wipe ((wipe σ [i0, i1]).set i0 (some v)) [i1])
    (hn : ∀ c H1 S1, c ∈ cs → Lift H S H1 S1 → DE tn ((wipe σ [i0, i1]).set i0 (some (.int c))) H1 S1 (.int (n c : Nat)))
    (hs : ∀ c (j : Nat) H1 S1, c ∈ cs → j < n c → Lift H S H1 S1 → DE te ((wipe ((wipe σ [i0, i1]).set i0 (some (.int c))) [i1]).set i1 (some (.int (j : Nat)))) H1 S1 (.int (f c j))) :
    DE (tCB (rSortedSet w) (tCons (LcC.tSc2 w (iTup K (tVar ic)) (gName i0) tYes (iRng1 (tCons tn tNil)) (gName i1) tYes te [i0, i1] [i1]) tNil)) σ H S
      (.lst ((sortU (cs.flatMap fun c => (List.range (n c)).map fun j => f c j)).map Dt.int)) := fun H1 S1 Q x q => by
  obtain ⟨a, xs, rfl, ea, na, oa⟩ := (x.ob ov).tup_inv
  have e := oa.ints
  subst e
  refine ⟨_, hv, a, rfl, ⟨_, ea.sq⟩, fun D hD => ?_⟩
  let F : Int → List Int := fun c => (List.range (n c)).map fun j => f c j
  have lenF : ∀ i, i ≤ cs.length → ((cs.take i).flatMap F).length ≤ i * 5 := by
    intro i
    induction i with
    | zero => intro _; simp
    | succ i ih =>
      intro hi
      have hg : cs[i]? = some cs[i] := List.getElem?_eq_getElem (by omega)
      have h5 := hn5 _ (List.mem_of_getElem? hg)
      rw [List.take_add_one, hg, List.flatMap_append, List.length_append]
      have := ih (by omega)
      have l1 : ((some cs[i]).toList.flatMap F).length = n cs[i] := by simp [F]
      omega
  refine ⟨fun i m H' => m = cs.length - i ∧ i ≤ cs.length ∧ SetAt w H1 D ((cs.take i).flatMap F) H', ⟨_, rfl, Nat.zero_le _, SetAt.nil hD⟩, ?_⟩
  rintro i m H2 ⟨rfl, hi, st⟩
  by_cases lt : i < cs.length
  · have hg : cs[i]? = some cs[i] := List.getElem?_eq_getElem lt
    have cm := List.mem_of_getElem? hg
    have c5 := hn5 _ cm
    refine .inr ⟨⟨_, .int cs[i], (ea.same st.same).sq, by rw [List.getElem?_map, hg]; rfl⟩, fun H3 => SetAt w H1 D ((cs.take (i + 1)).flatMap F) H3, fun H3 h => ⟨_, by omega, rfl, lt, h⟩, ?_⟩
    rintro y H3 ⟨rfl, fy⟩
    have ey := fy _ (ea.same st.same).sq
    rw [List.getElem?_map, hg] at ey
    have ey := Option.some.inj ey
    subst ey
    have lf := x.trans (st.lift x.live hD)
    refine ⟨hw _, (hn _ _ _ cm lf).go lf.live fun u H4 k4 o4 => ?_⟩
    have eu := o4.int_inv
    subst eu
    refine ⟨_, rfl, by omega, by omega, ?_⟩
    rw [Int.toNat_natCast]
    refine ⟨fun j k H' => k = n cs[i] - j ∧ j ≤ n cs[i] ∧ SetAt w H1 D ((cs.take i).flatMap F ++ (List.range j).map fun j => f cs[i] j) H', ⟨_, rfl, Nat.zero_le _, ?_⟩, ?_⟩
    · obtain ⟨m, e, hm⟩ := st.ex
      refine ⟨st.same.trans k4, m, ?_, ?_⟩
      · simpa using k4 _ _ e
      · simpa using hm
    rintro j kk H5 ⟨rfl, hj, st5⟩
    by_cases jl : j < n cs[i]
    · refine .inr ⟨jl, fun H6 => SetAt w H1 D ((cs.take i).flatMap F ++ (List.range (j + 1)).map fun j => f cs[i] j) H6, fun H6 h6 => ⟨_, by omega, rfl, jl, h6⟩, ?_⟩
      rintro y H6 ⟨rfl, rfl⟩
      rw [Int.zero_add]
      have lf5 := x.trans (st5.lift x.live hD)
      refine ⟨hw2 _ _, (hs _ j _ _ cm jl lf5).go lf5.live fun u H7 k7 o7 => ?_⟩
      have eu := o7.int_inv
      subst eu
      have sz : ((cs.take i).flatMap F ++ (List.range j).map fun j => f cs[i] j).length ≤ 60 := by
        rw [List.length_append, List.length_map, List.length_range]
        have := lenF i (by omega)
        omega
      obtain ⟨S0, m, e1, e2, st6⟩ := st5.step (k := f cs[i] j) hD k7 sz
      refine ⟨_, S0, m, rfl, e1, e2, ?_⟩
      rw [List.range_succ, List.map_append, ← List.append_assoc]
      exact st6
    · have ej : j = n cs[i] := by omega
      subst ej
      refine .inl ⟨Nat.le_refl _, ?_⟩
      rw [List.take_add_one, hg, List.flatMap_append]
      simpa [F] using st5
  · have ei : i = cs.length := by omega
    subst ei
    rw [List.take_length] at st
    have l15 := lenF cs.length (Nat.le_refl _)
    rw [List.take_length] at l15
    obtain ⟨m, e, hm⟩ := st.ex
    refine .inl ⟨⟨_, (ea.same st.same).sq, by rw [List.length_map]; exact Nat.le_refl _⟩, D, _, m, rfl, e, by omega, fun ns p pw hmem hl hp => ?_⟩
    have en : ns = sortU (cs.flatMap F) := up_unique pw (pw_sortU _) fun k => by rw [hmem, mem_sortU]; simp
    subst en
    refine q _ _ (st.same.trans (same_upd hp)) (.lst upd_same (fun z => ?_) (ocs_ints _))
    exact Lv.same st.same x.live p z hp
/-! ### sorted data -/
def rSortD (K : PySem.W.Frag) : List V → Hp → VK → Prop := fun vs H Q => ∃ (a : Addr) (xs : List V) (ds : List PyData), vs = [.ref a] ∧ SqL K H a xs ∧ DpAll K H xs ds ∧ AllAlike ds ∧ Sortable ds ∧ (∀ d ∈ ds, d.depth ≤ 16) ∧
  ∀ p, H p = none → Q (.ref p) (upd H p (.lst (((xs.zip ds).mergeSort (dataLe false Prod.snd)).map Prod.fst)))
theorem dp_len {K : PySem.W.Frag} {H : Hp} : ∀ {vs : List V} {ds : List PyData}, DpAll K H vs ds → vs.length = ds.length
  | _, _, .nil => rfl
  | _, _, .cons _ t => congrArg Nat.succ (dp_len t)
theorem each_zip {X : Cx} {pins : List (Addr × Obj)} {σ : L2.St} {H : Hp} {s : Shared} (I : Inv X pins σ H s) : ∀ {vs : List V} {us : List Value} {ds : List PyData}, DpAll X.K H vs ds → Vals vs us → EachIs (fun u (p : V × PyData) => RelV p.1 u) us (vs.zip ds) ∧ EachIs (fun u (p : V × PyData) => ∃ as, Reads s.heap u p.2 as) us (vs.zip ds)
  | _, _, _, .nil, .nil => ⟨.nil, .nil⟩
  | _, _, _, .cons h t, .cons r rs => by
    obtain ⟨e1, e2⟩ := each_zip I t rs
    exact ⟨.cons r e1, .cons (Dp.reads I _ _ _ h r) e2⟩
theorem vals_each : ∀ {us : List Value} {ps : List (V × PyData)}, EachIs (fun u (p : V × PyData) => RelV p.1 u) us ps → Vals (ps.map Prod.fst) us
  | _, _, .nil => .nil
  | _, _, .cons r t => .cons r (vals_each t)
theorem cr_sortD {X : Cx} (K : PySem.W.Frag) (hu : X.A.units + 64 < cLine) (h : X.K = K := by rfl) : CallR X (.builtin "sorted") (rSortD K) := by
  subst h
  intro pins s σ H vs us Q I r h
  obtain ⟨a, xs, ds, rfl, hs, hd, al, so, dp, q⟩ := h
  obtain ⟨its, rv, pl, hz⟩ := I.list hs
  obtain ⟨e1, e2⟩ := each_zip I hd rv
  rw [Vals.ref1 r]
  have em : (xs.zip ds).map Prod.snd = ds := List.map_snd_zip (Nat.le_of_eq (dp_len hd).symm)
  have lz : (xs.zip ds).length = xs.length := by rw [List.length_zip, dp_len hd, Nat.min_self]
  refine sorted_data (enc := Prod.snd) pl.isList e1 e2 (by rw [em]; exact al) (by rw [em]; exact so) (by rw [lz]; exact hz) (fun b hb => ?_) fun out hl eo => ?_
  · have := dp b.2 (List.of_mem_zip hb).2
    omega
  · obtain ⟨ep, he'⟩ := PyProof.Rows.sortedAll_at s.heap its out.toArray
    refine ⟨.ref _, upd H (s.heap.objs.size + 1) (.lst (((xs.zip ds).mergeSort (dataLe false Prod.snd)).map Prod.fst)), I.laid (t' := s.toks) (fun _ _ => PyProof.Rows.sortedAll_old) (Nat.le_succ _) ⟨?_, out, ep, vals_each eo, he'⟩, rfl, q _ (I.hok.fresh (Nat.le_succ _))⟩
    rw [List.length_map, List.length_mergeSort, lz]; exact hz
end
def encD (q : List Int × Int) : Dt := .tup true [intT' q.1, .int q.2]
def encP (q : List Int × Int) : PyData := .tuple [intP q.1, .int q.2]
theorem pd_encD (q : List Int × Int) : pd (encD q) = encP q := by
  show PyData.tuple [pd (intT' q.1), .int q.2] = _
  rw [pd_intT]; rfl
theorem pairs_dp {K : PySem.W.Frag} {H : Hp} {S : AS} {xs : List V} {rows : List (List Int × Int)} (h : Ocs H S xs (rows.map encD)) : DpAll K H xs (rows.map encP) := by
  have := h.dp (K := K) (pl_of_map (fun q => by show Dt.plAll [intT' q.1, .int q.2] = true; rw [Dt.plAll, show (intT' q.1).pl = true from pl_ints _]; rfl) _)
  rw [pdAll_map, List.map_map] at this
  have e : (rows.map (pd ∘ encD)) = rows.map encP := List.map_congr_left fun x _ => pd_encD x
  rw [e] at this
  exact this
theorem depth_encP (q : List Int × Int) : (encP q).depth = 2 := by
  unfold encP
  have h2 : PyData.depth (intP q.1) = 1 := by unfold intP; rw [PyData.depth, depth_ints]
  simp [PyData.depth, PyData.depthAll, h2]
theorem alike_encP (p q : List Int × Int) : alike (encP p) (encP q) = true := by
  unfold encP
  have e : alike (intP p.1) (intP q.1) = true := by
    show alike (.tuple _) (.tuple _) = true
    rw [alike]; exact alike_ints _ _
  simp [alike, alikeAll, e]
theorem ocs_zip {H : Hp} {S : AS} (f : α → Dt) : ∀ {vs : List V} {rs : List α}, Ocs H S vs (rs.map f) → ∀ z ∈ vs.zip rs, Oc H S z.1 (f z.2)
  | _, [], .nil, z, hz => by simp at hz
  | _, r :: rs, .cons h t, z, hz => by
    rw [List.zip_cons_cons] at hz
    rcases List.mem_cons.mp hz with rfl | hz
    · exact h
    · exact ocs_zip f t z hz
theorem ocs_of {H : Hp} {S : AS} (f : α → Dt) : ∀ (l : List (V × α)), (∀ z ∈ l, Oc H S z.1 (f z.2)) → Ocs H S (l.map Prod.fst) (l.map fun z => f z.2)
  | [], _ => .nil
  | z :: r, h => .cons (h z List.mem_cons_self) (ocs_of f r fun y hy => h y (List.mem_cons_of_mem _ hy))
def sortP (rows : List (List Int × Int)) : List (List Int × Int) := rows.mergeSort (dataLe false encP)
section
variable {σ : L2.St} {H : Hp} {S : AS} {K : PySem.W.Frag}
theorem none_back {H H1 : Hp} {t : Addr} (k : Same H H1) (h : H1 t = none) : H t = none := by
  cases e : H t with
  | none => rfl
  | some o => rw [k _ _ e] at h; cases h
theorem D_sortPF {tl : TE} {rows : List (List Int × Int)} (hl : DE tl σ H S (.lst (rows.map encD))) (H1 : Hp) (S1 : AS) (Q : VK) (x : Lift H S H1 S1) (q : ∀ v H2, Same H1 H2 → Oc H2 S1 v (.lst ((sortP rows).map encD)) → (∀ a, v = .ref a → H1 a = none) → Q v H2) : (tCB (rSortD K) (tCons tl tNil)) σ H1 Q :=
  hl H1 S1 _ x fun v H2 k o => by
    obtain ⟨a, xs, rfl, ea, na, oa⟩ := o.lst_inv
    have len := oa.len
    rw [List.length_map] at len
    refine ⟨a, xs, rows.map encP, rfl, SqL.of ea, pairs_dp oa, fun d hd e he => ?_, Sortable.tuples fun b => ⟨_, _, rfl⟩, fun d hd => ?_, fun p hp => ?_⟩
    · obtain ⟨b, _, rfl⟩ := List.mem_map.mp hd
      obtain ⟨c, _, rfl⟩ := List.mem_map.mp he
      exact alike_encP b c
    · obtain ⟨b, _, rfl⟩ := List.mem_map.mp hd
      rw [depth_encP]; decide
    · refine q _ _ (k.trans (same_upd hp)) (.lst upd_same (Lv.out (Lv.same k x.live) hp) ?_) fun b eb => by cases eb; exact none_back k hp
      let le2 : V × (List Int × Int) → V × (List Int × Int) → Bool := dataLe false fun z => encP z.2
      have e1 : (xs.zip (rows.map encP)).mergeSort (dataLe false Prod.snd) = ((xs.zip rows).mergeSort le2).map fun z => (z.1, encP z.2) := by
        rw [List.zip_map_right, List.map_mergeSort (r := le2) (s := dataLe false Prod.snd) fun a _ b _ => rfl]
        rfl
      have e2 : sortP rows = ((xs.zip rows).mergeSort le2).map Prod.snd := by
        rw [List.map_mergeSort (r := le2) (s := dataLe false encP) fun a _ b _ => rfl, List.map_snd_zip (by omega)]
        rfl
      rw [e1, e2, List.map_map, List.map_map]
      refine (ocs_of encD _ fun z hz => ?_).same (same_upd hp)
      exact ocs_zip encD oa z ((List.mergeSort_perm _ _).mem_iff.mp hz)
theorem D_sortP {tl : TE} {rows : List (List Int × Int)} (hl : DE tl σ H S (.lst (rows.map encD))) : DE (tCB (rSortD K) (tCons tl tNil)) σ H S (.lst ((sortP rows).map encD)) := fun H1 S1 Q x q => D_sortPF hl H1 S1 Q x fun v H2 k o _ => q v H2 k o
theorem D_sortG {α : Type} {f : α → Dt} {enc : α → PyData} {tl : TE} {rows : List α} (hpl : ∀ a, (f a).pl = true := by first | (intro a; rfl) | (intro a; exact pl_ints _)) (hpd : ∀ a, pd (f a) = enc a) (hal : ∀ a b, alike (enc a) (enc b) = true) (hso : Sortable (rows.map enc)) (hdp : ∀ a, (enc a).depth ≤ 16) (hl : DE tl σ H S (.lst (rows.map f))) : DE (tCB (rSortD K) (tCons tl tNil)) σ H S (.lst ((rows.mergeSort (dataLe false enc)).map f)) := fun H1 S1 Q x q =>
  hl H1 S1 _ x fun v H2 k o => by
    obtain ⟨a, xs, rfl, ea, na, oa⟩ := o.lst_inv
    have len := oa.len
    rw [List.length_map] at len
    have dps : DpAll K H2 xs (rows.map enc) := by
      have := oa.dp (K := K) (pl_of_map hpl _)
      rw [pdAll_map, List.map_map] at this
      have e : (rows.map (pd ∘ f)) = rows.map enc := List.map_congr_left fun x _ => hpd x
      rw [e] at this
      exact this
    refine ⟨a, xs, rows.map enc, rfl, SqL.of ea, dps, fun d hd e he => ?_, hso, fun d hd => ?_, fun p hp => ?_⟩
    · obtain ⟨b, _, rfl⟩ := List.mem_map.mp hd
      obtain ⟨c, _, rfl⟩ := List.mem_map.mp he
      exact hal b c
    · obtain ⟨b, _, rfl⟩ := List.mem_map.mp hd
      exact hdp b
    · refine q _ _ (k.trans (same_upd hp)) (.lst upd_same (Lv.out (Lv.same k x.live) hp) ?_)
      let le2 : V × α → V × α → Bool := dataLe false fun z => enc z.2
      have e1 : (xs.zip (rows.map enc)).mergeSort (dataLe false Prod.snd) = ((xs.zip rows).mergeSort le2).map fun z => (z.1, enc z.2) := by
        rw [List.zip_map_right, List.map_mergeSort (r := le2) (s := dataLe false Prod.snd) fun a _ b _ => rfl]
        rfl
      have e2 : rows.mergeSort (dataLe false enc) = ((xs.zip rows).mergeSort le2).map Prod.snd := by
        rw [List.map_mergeSort (r := le2) (s := dataLe false enc) fun a _ b _ => rfl, List.map_snd_zip (by omega)]
      rw [e1, e2, List.map_map, List.map_map]
      refine (ocs_of f _ fun z hz => ?_).same (same_upd hp)
      exact ocs_zip f oa z ((List.mergeSort_perm _ _).mem_iff.mp hz)
/-- xs[1:] -/
theorem D_slice1 {ts : TE} {ds : List Dt} (hl : DE ts σ H S (.lst ds)) : DE (tSl (rSlL K) ts (tPart (tC (.int 1))) tNoPart) σ H S (.lst (ds.drop 1)) := fun H1 S1 Q x q =>
  hl H1 S1 _ x fun v H2 k o => by
    obtain ⟨a, xs, rfl, ea, na, oa⟩ := o.lst_inv
    refine ⟨1, rfl, a, xs, rfl, SqL.of ea, fun p hp => ?_⟩
    rw [cut1]
    refine q _ _ (k.trans (same_upd hp)) (.lst upd_same (Lv.out (Lv.same k x.live) hp) ?_)
    cases oa with
    | nil => exact .nil
    | cons h t => exact t.same (same_upd hp)
/-- [e for a, b in zip(xs, ys)] -/
theorem D_lcZ {i1 i2 : Nat} {ta tb te : TE} {ds es : List Dt} {f : Dt × Dt → Dt} (ha : DE ta σ H S (.lst ds)) (hb : DE tb σ H S (.lst es)) (hz : ds.length ≤ 999999) (hw : ∀ x y : V, wipe (((wipe σ [i1, i2]).set i1 (some x)).set i2 (some y)) [i1, i2] = wipe σ [i1, i2])
    (hs : ∀ v u d e H1 S1, (d, e) ∈ ds.zip es → Lift H S H1 S1 → Oc H1 S1 v d → Oc H1 S1 u e → DE te (((wipe σ [i1, i2]).set i1 (some v)).set i2 (some u)) H1 S1 (f (d, e))) :
    DE (tLc (iZipA K (tCons ta (tCons tb tNil))) (gTup K 2 (gCons (gName i1) (gCons (gName i2) gNil))) tYes te [i1, i2]) σ H S (.lst ((ds.zip es).map f)) := fun H1 S1 Q x q =>
  ha H1 S1 _ x fun va H2 k o => (hb.lift (x.then k)).go (Lv.same k x.live) fun vb H3 k3 o3 => by
    obtain ⟨a, xs, rfl, ea, na, oa⟩ := (o.same k3).lst_inv
    obtain ⟨b, ys, rfl, eb, nb, ob⟩ := o3.lst_inv
    have l1 := oa.len
    have l2 := ob.len
    have L3 := Lv.same k3 (Lv.same k x.live)
    have x3 := (x.then k).then k3
    refine ⟨a, b, xs, ys, rfl, .inl ⟨SqL.of ea, SqL.of eb, fun D hD => ?_⟩⟩
    have lz : (ds.zip es).length ≤ 999999 := by rw [List.length_zip]; omega
    refine ⟨fun i m H' => m = (ds.zip es).length - i ∧ i ≤ (ds.zip es).length ∧ Made H3 S1 D (((ds.zip es).take i).map f) H', ⟨_, rfl, Nat.zero_le _, Made.nil hD⟩, ?_⟩
    rintro i m H' ⟨rfl, hi, md⟩
    by_cases lt : i < (ds.zip es).length
    · have lt2 := lt
      rw [List.length_zip] at lt2
      have gx : xs[i]? = some xs[i] := List.getElem?_eq_getElem (by omega)
      have gy : ys[i]? = some ys[i] := List.getElem?_eq_getElem (by omega)
      obtain ⟨d, gd, od⟩ := oa.get gx
      obtain ⟨e', ge, oe⟩ := ob.get gy
      have gz : (ds.zip es)[i]? = some (d, e') := by rw [List.getElem?_zip_eq_some]; exact ⟨gd, ge⟩
      refine .inr ⟨⟨xs, ys, _, _, SqL.of (md.same _ _ ea), SqL.of (md.same _ _ eb), gx, gy⟩, fun H2 => Made H3 S1 D (((ds.zip es).take (i + 1)).map f) H2, fun H2 h2 => ⟨_, by omega, rfl, lt, h2⟩, ?_⟩
      rintro v H4 ⟨t, x', y', rfl, ht, rfl, fx, fy⟩
      have ex : x' = xs[i] := Option.some.inj ((fx _ (SqL.of (md.same _ _ ea))).symm.trans gx)
      have ey : y' = ys[i] := Option.some.inj ((fy _ (SqL.of (md.same _ _ eb))).symm.trans gy)
      subst ex; subst ey
      have kt := same_upd (o := .tup [xs[i], ys[i]]) ht
      have lf := (md.lift L3 hD).then kt
      refine ⟨t, _, rfl, SqT.of upd_same, rfl, _, _, rfl, _, _, rfl, rfl, ?_⟩
      refine ⟨hw _ _, (hs _ _ d e' _ _ (List.mem_of_getElem? gz) (x3.trans lf) (lf.ob od) (lf.ob oe)).go lf.live fun z H5 k5 o5 => ?_⟩
      obtain ⟨acc, e1, e2, m2⟩ := md.step hD (kt.trans k5) o5 (by rw [List.length_map]; have := List.length_take_le i (ds.zip es); have := List.length_take_le' i (ds.zip es); omega)
      refine ⟨acc, e1, e2, ?_⟩
      rw [List.take_add_one, gz, List.map_append]; exact m2
    · have ei : i = (ds.zip es).length := by omega
      subst ei
      rw [List.take_length] at md
      refine .inl ⟨⟨xs, ys, SqL.of (md.same _ _ ea), SqL.of (md.same _ _ eb), ?_⟩, q _ _ ((k.trans k3).trans md.same) (md.done L3 hD)⟩
      rw [List.length_zip]; omega
end
end Lc
namespace Lc
open PySem PySem.Spec PyProof.Rows L2 RZ PySem.W
/-! ### t[lo:hi] of a tuple that has no dict -/
section
variable {X : Cx}
def rSlF (K : PySem.W.Frag) : V → Option Int → Option Int → Hp → VK → Prop := fun x lo hi H Q => ∃ a xs, x = .ref a ∧ SqT K H a xs ∧
  (HT.sIx xs.length 0 lo = 0 ∧ HT.sIx xs.length xs.length hi = xs.length → Q (.ref a) H) ∧ (¬ (HT.sIx xs.length 0 lo = 0 ∧ HT.sIx xs.length xs.length hi = xs.length) → ∀ p H2, H p = none → Same H H2 → Tp H2 p true (cutV xs lo hi) → Q (.ref p) H2)
theorem sl_tupF : SlR X (rSlF X.K) := by
  intro pins s σ H x v vl vu lo hi sl Q I rx hs pl pu h
  obtain ⟨a, xs, rfl, hx, q1, q2⟩ := h
  by_cases hw : HT.sIx xs.length 0 lo = 0 ∧ HT.sIx xs.length xs.length hi = xs.length
  · exact sl_tupA pins s σ H _ v vl vu lo hi sl Q I rx hs pl pu ⟨a, xs, rfl, hx, q1, fun n => absurd hw n⟩
  · cases rx
    obtain ⟨its, r, ht, hz⟩ := I.tuple hx
    have hlen : its.toArray.size = xs.length := by rw [List.size_toArray]; exact r.length.symm
    refine ⟨"tuple", _, PyProof.Rows.slot_tuple_getitem.lookup, ht.typeIs, ?_⟩
    refine HT.getItem_tuple_cut ht hs pl pu (by rw [hlen]; exact hw) ?_ (by rw [hlen]; exact hz)
    rw [hlen]
    have hf : H s.heap.objs.size = none := I.hok.fresh (Nat.le_refl _)
    refine ⟨.ref s.heap.objs.size, _, I.laid (t' := s.toks) (o := .frz { cls := .type "tuple", data := .seq ((its.drop (HT.sIx xs.length 0 lo)).take (HT.sIx xs.length xs.length hi - HT.sIx xs.length 0 lo)).toArray } (.tup (cutV xs lo hi))) (fun b ob q => Heap.get?_push_of_some _ q) (Nat.le_refl _) ?_, rfl, q2 hw _ _ hf (same_upd hf) (.bare rfl rfl upd_same)⟩
    exact ⟨Heap.get?_push_size _ rfl, Nat.le_trans (cutV_length xs lo hi) hz, _, (r.drop (HT.sIx xs.length 0 lo)).take (HT.sIx xs.length xs.length hi - HT.sIx xs.length 0 lo), IsTup.new _ _⟩
theorem sl_tupFK (K : PySem.W.Frag) (h : X.K = K := by rfl) : SlR X (rSlF K) := h ▸ sl_tupF
end
/-! ### enumerate(a tuple) -/
section
variable {prog : Program} {w : World} {A : Around} {E : Value → Shared → Prop} {s : Shared}
theorem wpAny_pyNext_enum_endT {e it t : Addr} {i : Nat} {c : Int} {items : Array Value} {old : Value} {Q : Option Value → Shared → Prop} (hh : A.handled = none) (hai : t ≠ it) (he : IsEnum s.heap e it c old) (hit : s.heap.IsTupleIter it t i) (ht : s.heap.IsTuple t items) (hx : items[i]? = none)
    (hQ : ∀ h', Heap.ExtBut it s.heap h' → Q none { s with heap := h' }) : wpAny (model prog w) A (pyNext (.ref e)) Q E s := by
  have hT : s.TypeIs (.ref e) "enumerate" := ⟨_, he, rfl⟩
  unfold pyNext
  refine wpAny_bind (wpAny_attempt (wpAny_callSpecial?_slot (name := Str.ofString "__next__") hT F.slot_enumerate_next
    (wpAny_call_entry F.slot_enumerate_next hT F.entry_enumerate_next ?_ (F.args_enumerate_next_1 _))))
  show wpAny _ _ (field (.ref e) 2 >>= _) _ _ _
  refine wpAny_bind (wpAny_field he rfl (x := .ref it) rfl ?_)
  refine wpAny_bind (wpAny_nextOf_tuple_end (by exact hh) hit ht hx fun h' x he' hx' => ?_)
  obtain ⟨o, ho, hc⟩ := hx'
  refine wpAny_bind (wpAny_isInstance (T := "StopIteration") (b := true) ⟨o, ho, hc⟩ isSubtype_stop ?_)
  exact wpAny_pure (hQ _ he')
theorem meets_enumerate_newT {v : Value} {o : Obj} {H : Heap → Prop} (B : Begins v o H) :
    Meets (Builtin.«enumerate.__new__» ⟨[.type "enumerate", v], []⟩) (fun _ R s => H s.heap ∧
      R (.ok (.ret (.ref (s.heap.push o).objs.size))) { s with heap := (s.heap.push o).push { cls := .type "enumerate", data := .fields #[.none, .bool false, .ref s.heap.objs.size, rawInt 0, .none, .none] } }) :=
  .of_wp fun prog w A R s h => by
    obtain ⟨hp, g, d, tk, os⟩ := s; obtain ⟨h1, h⟩ := h
    have hsub := sub_enumerate
    have q1 : ∀ {A' : Around} {E : Value → Shared → Prop} {Q : Value → Shared → Prop}, Q (.ref hp.objs.size) ⟨hp.push o, g, d, tk, os⟩ → wpAny (model prog w) A' (pyIter v) Q E ⟨hp, g, d, tk, os⟩ :=
      fun q => B.iter prog w _ _ ⟨hp, g, d, tk, os⟩ _ h1 q
    wp_walk using q1
    refine wpAny_stack_any fun st => wpAny_pure ?_
    split
    · rename_i c _ _ _ _ _
      cases (c == Value.type "enumerate")
      · wp_walk using q1
        exact ⟨_, rfl, h⟩
      · wp_walk using q1
        exact ⟨_, rfl, h⟩
    · wp_walk using q1
      exact ⟨_, rfl, h⟩
theorem enum_begins1 {v : Value} {o : Obj} {H : Heap → Prop} {Q : Value → Shared → Prop} (B : Begins v o H) (h1 : H s.heap)
    (h : ∀ h', IsEnum h' (s.heap.objs.size + 1) s.heap.objs.size 0 .none → h'.get? s.heap.objs.size = some o → h'.objs.size = s.heap.objs.size + 2 →
      (∀ b o, s.heap.get? b = some o → h'.get? b = some o) → Q (.ref (s.heap.objs.size + 1)) { s with heap := h' }) :
    wpAny (model prog w) A (call (.type "enumerate") [v]) Q E s := by
  refine callType_new F.called_enumerate (by decide) (F.typeCall_enumerate_1 _) (F.newCall_enumerate_1 _) (fun obj => F.args_object_init_2 obj _) F.entry_enumerate_new
    (meets_enumerate_newT B) ⟨h1, ?_⟩
  have hz : (s.heap.push o).objs.size = s.heap.objs.size + 1 := Heap.size_push ..
  show _ ∧ _
  rw [hz]
  have he : IsEnum ((s.heap.push o).push { cls := .type "enumerate", data := .fields #[.none, .bool false, .ref s.heap.objs.size, rawInt 0, .none, .none] }) (s.heap.objs.size + 1) s.heap.objs.size 0 .none := by
    have := Heap.get?_push_size (s.heap.push o) (o := { cls := .type "enumerate", data := .fields #[.none, .bool false, .ref s.heap.objs.size, rawInt 0, .none, .none] }) rfl
    rw [hz] at this; exact this
  refine ⟨⟨_, he, rfl⟩, h _ he (Heap.get?_push_of_some _ (Heap.get?_push_size _ B.free)) (by rw [Heap.size_push, hz]) fun b o x => Heap.get?_push_of_some _ (Heap.get?_push_of_some _ x)⟩
end
def IteT (K : PySem.W.Frag) (a : Addr) : It :=
  ⟨fun i H => ∃ (xs : List V) (x : V), SqT K H a xs ∧ xs[i]? = some x, fun i H v H' => ∃ T x, v = .ref T ∧ H T = none ∧ H' = upd H T (.tup [.int (i : Nat), x]) ∧ ∀ xs, SqT K H a xs → xs[i]? = some x, fun i H => ∃ xs : List V, SqT K H a xs ∧ xs.length ≤ i⟩
theorem turn_enumT {P : Program} {w : World} {K : PySem.W.Frag} {elts : List Expr} {kk : Nat} {tpos : Pos} (a e it : Addr) (hai : a ≠ it) (hae : a ≠ e) :
    Turn P w K (.Tuple elts kk tpos) (IteT K a) [e, it] e (fun i h => (∃ old, IsEnum h e it ((i : Nat) : Int) old) ∧ h.IsTupleIter it a i ∧ e ≠ it) where
  mem := by simp
  obj := fun i h st b hb => by
    obtain ⟨⟨old, he⟩, ⟨o, ho, hc, hd⟩, _⟩ := st
    have e' : b = e ∨ b = it := by simpa using hb
    rcases e' with z | z
    · rw [z]; exact ⟨_, he, fun v q => nomatch q⟩
    · rw [z]; exact ⟨o, ho, fun v q => by rw [hd] at q; cases q⟩
  keep := fun i h h' st k => let ⟨⟨old, he⟩, hi, hne⟩ := st; ⟨⟨old, k e (by simp) _ he⟩, hi.at fun o q => k it (by simp) o q, hne⟩
  item := by
    intro X hP hw hK hc i pins s σ H E I hf st hg
    subst hP hw hK
    obtain ⟨⟨old, he⟩, hit, hne⟩ := st
    obtain ⟨xs, x, hq, hx⟩ := hg
    obtain ⟨its, rv, p, hz⟩ := I.tuple hq
    obtain ⟨u, hu, ru⟩ := rv.get hx
    have hel : e < s.heap.objs.size := Heap.lt_size he
    have hil : it < s.heap.objs.size := by obtain ⟨_, q, _⟩ := hit; exact Heap.lt_size q
    have hlt : i < its.toArray.size := by
      have := (List.getElem?_eq_some_iff.mp hu).1
      simpa using this
    refine wpAny_pyNext_enum_itemD (Draws.tuple (by exact I.ok.hd hc) it a hai its.toArray) he ⟨hit, p⟩ hlt hne (by simp [Ne.symm hae, hne]) fun y h' tk hy ho hst hT hsz hk => ?_
    have ey : y = u := by
      have h1 : its.toArray[i]? = some u := by simpa using hu
      rw [h1] at hy; exact (Option.some.inj hy).symm
    subst ey
    refine ⟨_, rfl, wpAny_letOwnedTupleGo_enum (s := { s with heap := h', toks := tk + 1 }) ho fun h'' he' sb => ?_⟩
    have hT2 : h''.get? s.heap.objs.size = some { cls := .type "tuple", data := .seq #[.int i tk, y] } := (sb.2 _ (Nat.ne_of_gt hel)).trans hT
    have new : ObjOk X.prog X.w (upd H s.heap.objs.size (.tup [.int (i : Nat), x])) h'' s.heap.objs.size (.tup [.int (i : Nat), x]) :=
      ⟨by show 2 ≤ sizeLine; decide, [.int i tk, y], .cons ⟨_, rfl⟩ (.cons ru .nil), ⟨_, hT2, rfl, _, rfl⟩⟩
    have I1 : Inv X pins σ (upd H s.heap.objs.size (.tup [.int (i : Nat), x])) { s with heap := h'', toks := tk + 1 } :=
      I.turnedNew (ch := [e, it]) (fun b ob hb q => (sb.2 b (fun z => hb (by simp [z]))).trans (hk b ob (fun z => hb (by simp [z])) (fun z => hb (by simp [z])) q)) hf (Nat.le_refl _) new
    refine ⟨.ref s.heap.objs.size, _, I1, rfl, ⟨_, x, rfl, I.hok.fresh (Nat.le_refl _), rfl, fun ys hy => by rw [I.tuple_inj hy hq]; exact hx⟩, ⟨⟨y, ?_⟩, hst.1.at fun o q => (sb.2 it (Ne.symm hne)).trans q, hne⟩, fun b hb => ?_⟩
    · have e1 : ((i + 1 : Nat) : Int) = (i : Int) + 1 := by omega
      rw [e1]; exact he'
    · have hb' : b < s.heap.objs.size := by
        have e' : b = e ∨ b = it := by simpa using hb
        rcases e' with z | z
        · rw [z]; exact hel
        · rw [z]; exact hil
      rw [upd_ne (Nat.ne_of_lt hb')]
      exact (hf b hb).1
  done := by
    intro X hP hw hK hc i pins s σ H E I hf st hg
    subst hP hw hK
    obtain ⟨⟨old, he⟩, hit, hne⟩ := st
    obtain ⟨xs, hq, hx⟩ := hg
    obtain ⟨its, rv, p, hz⟩ := I.tuple hq
    obtain ⟨f0, f1, f2, f3, f4, f5⟩ := hf it (by simp)
    have hl := rv.length
    refine wpAny_pyNext_enum_endT (I.ok.hd hc) hai he hit p (by simp; omega) fun h' eb => ⟨rfl, I.turned (t' := s.toks) (fun b o hb q => eb b o hb q) f0 f1 f3 f4 f5⟩
  self := fun A i s Q E st h => let ⟨⟨_, he⟩, _⟩ := st; wpAny_pyIter_enum he h
/-- enumerate over a tuple -/
def iEnumT (K : PySem.W.Frag) (ta : TA) : TI := fun σ H R => ta σ H fun vs H1 => ∃ a xs, vs = [.ref a] ∧ SqT K H1 a xs ∧ R (IteT K a) H1
theorem pi_enumT {X : Cx} {e : Expr} {ta : TA} {p pos tpos : Pos} {elts : List Expr} {kk : Nat} (hg : Gl X "enumerate") (hm : X.mg "enumerate" = none) (ha : PA X [e] ta) (hs : starEach [e] X.env = [(false, eval e X.env)] := by rfl) :
    PI X (.Tuple elts kk tpos) (.Call (.Name "enumerate" p) [e] [] pos) (iEnumT X.K ta) := by
  refine ⟨fun pins s σ H R I h => ?_⟩
  refine Call_ (ld_blt I hg hm boot_enumerate (PyProof.Rows.callWith_type1 (thn (ha.run pos pins s σ H _ I h) fun us s1 ⟨vs, H1, I1, r1, q1⟩ => ?_) hs rfl))
  obtain ⟨a, xs, ex, hq, q⟩ := q1
  subst ex
  cases r1 with
  | cons r rr =>
    cases rr
    cases r
    obtain ⟨its, rv, p', hz⟩ := I1.tuple hq
    have p2 : s1.heap.IsTuple a its.toArray := p'
    obtain ⟨o1, ho1, _⟩ := id p2
    have al := Heap.lt_size ho1
    refine enum_begins1 (begins_tuple a its.toArray) p2 fun h' he hit hsz hk => wpAny_pyIter_enum he ?_
    have I2 : Inv X pins σ H1 { s1 with heap := h' } := I1.kept (t' := s1.toks) hk
    refine ⟨s1.heap.objs.size + 1, [s1.heap.objs.size + 1, s1.heap.objs.size], _, _, H1, rfl, I2, turn_enumT a (s1.heap.objs.size + 1) s1.heap.objs.size (Nat.ne_of_lt al) (Nat.ne_of_lt (Nat.lt_succ_of_lt al)), ⟨⟨.none, he⟩, ⟨_, hit, rfl, rfl⟩, Nat.succ_ne_self _⟩, fun b hb => ?_, q⟩
    have e' : b = s1.heap.objs.size + 1 ∨ b = s1.heap.objs.size := by simpa using hb
    have hle : s1.heap.objs.size ≤ b := by
      rcases e' with z | z
      · rw [z]; exact Nat.le_add_right _ _
      · rw [z]; exact Nat.le_refl _
    exact I1.fpOk hle (I1.hok.fresh hle)
theorem pi_enumTK {X : Cx} (K : PySem.W.Frag) {e : Expr} {ta : TA} {p pos tpos : Pos} {elts : List Expr} {kk : Nat} (hg : Gl X "enumerate") (hm : X.mg "enumerate" = none) (ha : PA X [e] ta) (h : X.K = K := by rfl) (hs : starEach [e] X.env = [(false, eval e X.env)] := by rfl) :
    PI X (.Tuple elts kk tpos) (.Call (.Name "enumerate" p) [e] [] pos) (iEnumT K ta) := h ▸ pi_enumT hg hm ha hs
theorem zi_get {ds : List Dt} {i : Nat} {d : Dt} (h : ds[i]? = some d) : ds.zipIdx[i]? = some (d, i) := by
  rw [List.getElem?_zipIdx, h]; simp
theorem zi_len (ds : List Dt) (r : Dt × Nat → Option Dt) (i : Nat) (h : ds.length ≤ 999999) : ((ds.zipIdx.take i).filterMap r).length < 1000000 := by
  have := List.length_filterMap_le r (ds.zipIdx.take i)
  have h2 := List.length_take_le' i ds.zipIdx
  rw [List.length_zipIdx] at h2
  omega
theorem zi_succ {ds : List Dt} {r : Dt × Nat → Option Dt} {i : Nat} {d : Dt} (h : ds[i]? = some d) : (ds.zipIdx.take (i + 1)).filterMap r = (ds.zipIdx.take i).filterMap r ++ (r (d, i)).toList := by
  rw [List.take_add_one, zi_get h, List.filterMap_append]
  show _ ++ List.filterMap r [(d, i)] = _
  cases e : r (d, i) <;> simp [List.filterMap, e]
/-- [e for i, x in enumerate(t) if ..] over a tuple -/
theorem D_lcE {K : PySem.W.Frag} {σ : L2.St} {H : Hp} {S : AS} {i1 i2 : Nat} {ta te : TE} {tt : TT} {z : Bool} {ds : List Dt} {r : Dt × Nat → Option Dt} (ha : DE ta σ H S (.tup z ds)) (hz : ds.length ≤ 999999) (hw : ∀ x y : V, wipe (((wipe σ [i1, i2]).set i1 (some x)).set i2 (some y)) [i1, i2] = wipe σ [i1, i2])
    (hs : ∀ v d (i : Nat) H1 S1, ds[i]? = some d → Lift H S H1 S1 → Oc H1 S1 v d → ∃ b, DT tt (((wipe σ [i1, i2]).set i1 (some (.int (i : Nat)))).set i2 (some v)) H1 S1 b ∧ (b = true → ∃ e, r (d, i) = some e ∧ DE te (((wipe σ [i1, i2]).set i1 (some (.int (i : Nat)))).set i2 (some v)) H1 S1 e) ∧ (b = false → r (d, i) = none)) :
    DE (tLc (iEnumT K (tCons ta tNil)) (gTup K 2 (gCons (gName i1) (gCons (gName i2) gNil))) tt te [i1, i2]) σ H S (.lst (ds.zipIdx.filterMap r)) := fun H1 S1 Q x q =>
  ha H1 S1 _ x fun va H2 k o => by
    obtain ⟨a, xs, rfl, ea, na, oa⟩ := o.tup_inv
    have l1 := oa.len
    have L2 := Lv.same k x.live
    have x3 := x.then k
    refine ⟨a, xs, rfl, ea.sq, fun D hD => ?_⟩
    refine ⟨fun i m H' => m = ds.length - i ∧ i ≤ ds.length ∧ Made H2 S1 D ((ds.zipIdx.take i).filterMap r) H', ⟨_, rfl, Nat.zero_le _, Made.nil hD⟩, ?_⟩
    rintro i m H' ⟨rfl, hi, md⟩
    by_cases lt : i < ds.length
    · have gx : xs[i]? = some xs[i] := List.getElem?_eq_getElem (by omega)
      obtain ⟨d, gd, od⟩ := oa.get gx
      refine .inr ⟨⟨xs, _, (ea.same md.same).sq, gx⟩, fun H2' => Made H2 S1 D ((ds.zipIdx.take (i + 1)).filterMap r) H2', fun H2' h2 => ⟨_, by omega, rfl, lt, h2⟩, ?_⟩
      rintro v H4 ⟨t, x', rfl, ht, rfl, fx⟩
      have ex : x' = xs[i] := Option.some.inj ((fx _ (ea.same md.same).sq).symm.trans gx)
      subst ex
      have kt := same_upd (o := .tup [.int (i : Nat), xs[i]]) ht
      have lf := (md.lift L2 hD).then kt
      refine ⟨t, _, rfl, SqT.of upd_same, rfl, _, _, rfl, _, _, rfl, rfl, ?_⟩
      obtain ⟨b, hb, h1, h0⟩ := hs _ d i _ _ gd (x3.trans lf) (lf.ob od)
      refine ⟨hw _ _, hb.go lf.live fun H5 k5 => ?_⟩
      cases b with
      | true =>
        obtain ⟨e, er, he⟩ := h1 rfl
        have lf5 := lf.then k5
        refine iteT ((he.lift ((Lift.refl lf.live).then k5)).go lf5.live fun y H6 k6 o6 => ?_)
        obtain ⟨acc, e1, e2, m2⟩ := md.step hD ((kt.trans k5).trans k6) o6 (zi_len ds r i hz)
        refine ⟨acc, e1, e2, ?_⟩
        rw [zi_succ gd, er]; exact m2
      | false =>
        refine iteF ?_
        rw [zi_succ gd, h0 rfl]
        show Made _ _ _ (_ ++ []) _
        rw [List.append_nil]
        obtain ⟨vs, e, oc⟩ := md.acc
        exact ⟨md.same.trans (kt.trans k5), vs, k5 _ _ (kt _ _ e), oc.same (kt.trans k5)⟩
    · have e : i = ds.length := by omega
      subst e
      refine .inl ⟨⟨xs, (ea.same md.same).sq, by omega⟩, ?_⟩
      rw [show ds.zipIdx.take ds.length = ds.zipIdx by rw [← List.length_zipIdx (l := ds)]; exact List.take_length] at md
      exact q _ _ (k.trans md.same) (md.done L2 hD)
end Lc
namespace Lc
open PySem PySem.Spec PyProof.Rows L2 RZ PySem.W
/-! ### a range held -/
section
variable {X : Cx}
theorem cr_range1 : CallR X (.type "range") (fun vs H Q => ∃ j, vs = [V.int j] ∧ ∀ p, H p = none → Q (.ref p) (upd H p (.rng 0 j))) := by
  intro pins s σ H vs us Q I r h
  obtain ⟨j, rfl, q⟩ := h
  cases r with
  | cons r rr =>
    cases rr
    obtain ⟨t, rfl⟩ := r
    refine call_range_1 ⟨.ref s.heap.objs.size, upd H s.heap.objs.size (.rng 0 j), I.laid (t' := s.toks + 1 + 1) (fun b o e => Heap.get?_push_of_some _ e) (Nat.le_refl _) ?_, rfl, q _ (I.hok.fresh (Nat.le_refl _))⟩
    exact ⟨s.toks, t, s.toks + 1, Heap.get?_push_size _ rfl⟩
def iRngV (te : TE) : TI := fun σ H R => te σ H fun x H1 => ∃ (p : Addr) (lo hi : Int), x = .ref p ∧ H1 p = some (.rng lo hi) ∧ (-(2 ^ 62) ≤ lo ∧ lo < 2 ^ 62 ∧ -(2 ^ 62) ≤ hi ∧ hi < 2 ^ 62) ∧ R (Itr lo (hi - lo).toNat) H1
theorem pi_rngV {tg e : Expr} {te : TE} (he : PE X e te) : PI X tg e (iRngV te) := by
  refine ⟨fun pins s σ H R I h => ?_⟩
  refine thn (he.run pins s σ H _ I h) fun v s1 ⟨x, H1, I1, r1, q1⟩ => ?_
  obtain ⟨p, lo, hi, e, hp, ⟨h1, h2, h3, h4⟩, q⟩ := q1
  subst e
  cases r1
  obtain ⟨t, u, v, ho⟩ := I1.hok p _ hp
  refine wpAny_pyIter_range (show IsRange s1.heap p lo hi 1 t u v from ho) (small_one h1 h2 h3 h4) ?_
  refine ⟨s1.heap.objs.size, [s1.heap.objs.size], _, _, H1, rfl, I1.kept (t' := s1.toks) fun b o e => Heap.get?_push_of_some _ e, turn_range _ lo (hi - lo).toNat, ?_, fun b hb => ?_, q⟩
  · have e1 : lo + ((0 : Nat) : Int) * 1 = lo := by simp
    have e2 : (((hi - lo).toNat : Nat) : Int) - ((0 : Nat) : Int) = Builtin.Range.rangeSize lo hi 1 := by rw [rangeSize_one]; split <;> omega
    show IsRangeIter _ _ (lo + ((0 : Nat) : Int) * 1) ((((hi - lo).toNat : Nat) : Int) - ((0 : Nat) : Int)) 1
    rw [e1, e2]
    exact Heap.get?_push_size _ rfl
  · have e : b = s1.heap.objs.size := by simpa using hb
    subst e
    exact I1.fpOk (Nat.le_refl _) (I1.hok.fresh (Nat.le_refl _))
end
/-! ### min(a list of ints, default=d) -/
theorem minD_intsL (x : Int) (xs : List Int) : minD (.int x) (xs.map PyData.int) = .int (minL (x :: xs)) := PySem.W.minD_ints x xs
def rMinDf (K : PySem.W.Frag) : List V → List V → Hp → VK → Prop := fun vs zs H Q => ∃ (a : Addr) (ns : List Int) (z : V), vs = [.ref a] ∧ zs = [z] ∧ SqL K H a (ns.map V.int) ∧ (ns = [] → Q z H) ∧ (ns ≠ [] → Q (.int (minL ns)) H)
theorem depth_ints (ns : List Int) : PyData.depthAll (ns.map PyData.int) = 0 := by
  induction ns with
  | nil => rfl
  | cons x r ih => rw [List.map_cons, PyData.depthAll, ih]; rfl
theorem crk_minD {X : Cx} (K : PySem.W.Frag) (hc : X.calm = true) (hu : X.A.units + 64 < cLine) (h : X.K = K := by rfl) : CallRK X (.builtin "min") ["default"] (rMinDf K) := by
  subst h
  intro pins s σ H vs zs us ws Q I r rz h
  obtain ⟨a, ns, z, rfl, rfl, hs, q0, q1⟩ := h
  obtain ⟨its, rv, pl, hz⟩ := I.list hs
  have hd := dp_ints (K := X.K) (H := H) ns
  obtain ⟨as, ra⟩ := Dp.readsAll I _ _ _ hd rv
  rw [Vals.ref1 r]
  cases rz with
  | cons rz rr =>
    cases rr
    refine min_list_default (I.ok.hd hc) pl.isList (by simpa using ra) (alike_int_all ns) (by rw [depth_ints]; omega) (fun e h' tk hk => ?_) fun y ys i v h' tk bs e hv hr hk => ?_
    · exact ⟨z, H, I.kept (t' := tk) hk, rz, q0 (List.map_eq_nil_iff.mp e)⟩
    · have hv' : its[i]? = some v := by rw [← hv]; simp
      obtain ⟨y', hy, ry⟩ := vals_at rv hv'
      obtain ⟨d, he, de⟩ := dp_at hd hy
      obtain ⟨cs, re⟩ := Dp.reads I _ _ _ de ry
      have ee := (PySem.Reads.unique (reads_keeps hk re) _ _ hr).1
      rw [List.getElem?_map] at hy he
      obtain ⟨n, hn, rfl⟩ := Option.map_eq_some_iff.mp hy
      rw [hn] at he
      have e3 := Option.some.inj (show some (PyData.int n) = some d from he)
      subst e3
      cases ns with
      | nil => cases hn
      | cons x r =>
        rw [List.map_cons] at e
        injection e with e1 e2
        subst e1; subst e2
        rw [minD_intsL] at ee
        injection ee with ee
        refine ⟨.int n, H, I.kept (t' := tk) hk, ry, ?_⟩
        rw [ee]
        exact q1 (by simp)
theorem D_minDf {σ : L2.St} {H : Hp} {S : AS} {K : PySem.W.Frag} {tl tz : TE} {ns : List Int} {m : Int} (hl : DE tl σ H S (.lst (ns.map Dt.int))) (hz : DE tz σ H S (.int m)) : DE (tCKw (rMinDf K) (tCons tl tNil) (tCons tz tNil)) σ H S (.int (if ns = [] then m else minL ns)) := fun H1 S1 Q y q =>
  hl H1 S1 _ y fun v H2 k o => (hz.lift (y.then k)).go (Lv.same k y.live) fun u H3 k3 o3 => by
    obtain ⟨a, ys, rfl, ea, na, oa⟩ := (o.same k3).lst_inv
    have e := oa.ints
    subst e
    have eu := o3.int_inv
    subst eu
    refine ⟨a, ns, _, rfl, rfl, SqL.of ea, fun e => ?_, fun e => ?_⟩
    · have h := q (.int m) _ (k.trans k3); rw [if_pos e] at h; exact h (.int _)
    · have h := q (.int (minL ns)) _ (k.trans k3); rw [if_neg e] at h; exact h (.int _)
end Lc
namespace Lc
open PySem PySem.Spec PyProof.Rows L2 RZ PySem.W
section
variable {σ : L2.St} {H : Hp} {S : AS} {K : PySem.W.Frag}
/-! ### stars in a display -/
theorem D_starL {te : TE} {t : TA} {ds es : List Dt} (h : DE te σ H S (.lst ds)) (ht : DA t σ H S es) : DA (StX.tStar K te t) σ H S (ds ++ es) := fun H1 S1 Q x q =>
  h H1 S1 _ x fun v H2 k o => by
    obtain ⟨a, xs, rfl, ea, na, oa⟩ := o.lst_inv
    exact ⟨a, xs, rfl, .inr (SqL.of ea), ht H2 S1 _ (x.then k) fun vs H3 k3 o3 => q _ _ (k.trans k3) ((oa.same k3).append o3)⟩
theorem D_starT {te : TE} {t : TA} {z : Bool} {ds es : List Dt} (h : DE te σ H S (.tup z ds)) (ht : DA t σ H S es) : DA (StX.tStar K te t) σ H S (ds ++ es) := fun H1 S1 Q x q =>
  h H1 S1 _ x fun v H2 k o => by
    obtain ⟨a, xs, rfl, ea, na, oa⟩ := o.tup_inv
    exact ⟨a, xs, rfl, .inl ea.sq, ht H2 S1 _ (x.then k) fun vs H3 k3 o3 => q _ _ (k.trans k3) ((oa.same k3).append o3)⟩
/-! ### [e for x in a range held] -/
theorem D_lcRV {g : TG} {tt : TT} {te : TE} {vs : List Nat} {j n : Nat} {p : Addr} {r : Dt → Option Dt} (hj : σ[j]? = some (some (.ref p))) (hp : H p = some (.rng 0 (n : Nat))) (hz : n ≤ 999999) (hs : ∀ (i : Nat) H1 S1, i < n → Lift H S H1 S1 → Turn1 g tt te vs σ (.int (i : Nat)) H1 S1 (r (.int (i : Nat)))) : DE (tLc (iRngV (tVar j)) g tt te vs) σ H S (.lst ((upto n).filterMap r)) := fun H1 S1 Q x q => by
    have L2 := x.live
    refine ⟨_, hj, p, 0, (n : Nat), rfl, x.same _ _ hp, ⟨by omega, by omega, by omega, by omega⟩, fun D hD => ?_⟩
    have et : (((n : Nat) : Int) - 0).toNat = n := by omega
    rw [et]
    refine lc_range (lo := 0) (n := n) (fun i H' => Made H1 S1 D (((upto n).take i).filterMap r) H') (Made.nil hD) ?_ ?_
    · intro i H' hi m
      have lf := m.lift L2 hD
      rw [Int.zero_add]
      have hd := upto_get hi
      refine hs i H' _ hi (x.trans lf) _ _ (fun z e H4 er k4 o4 => ?_) fun H4 er k4 => ?_
      · obtain ⟨acc, e1, e2, m2⟩ := m.step hD k4 o4 (fm_len _ r i (by rw [upto_len]; exact hz))
        refine ⟨acc, e1, e2, ?_⟩
        rw [fm_succ hd, er]; exact m2
      · rw [fm_succ hd, er]
        show Made _ _ _ (_ ++ []) _
        rw [List.append_nil]
        obtain ⟨vs, e, oc⟩ := m.acc
        exact ⟨m.same.trans k4, vs, k4 _ _ e, oc.same k4⟩
    · intro H' m
      have e2 : (upto n).take n = upto n := List.take_of_length_le (by rw [upto_len]; exact Nat.le_refl _)
      rw [e2] at m
      exact q _ _ m.same (m.done L2 hD)
/-! ### fields -/
inductive Fds (H : Hp) (S : AS) : List (Str × V) → List (Str × Dt) → Prop where
  | nil : Fds H S [] []
  | cons {f : Str} {v : V} {d : Dt} {fs : List (Str × V)} {ds : List (Str × Dt)} (h : Oc H S v d) (t : Fds H S fs ds) : Fds H S ((f, v) :: fs) ((f, d) :: ds)
theorem Fds.get {fs : List (Str × V)} {ds : List (Str × Dt)} {f : Str} {d : Dt} (h : Fds H S fs ds) (e : ds.lookup f = some d) : ∃ v, fs.lookup f = some v ∧ Oc H S v d := by
  induction h with
  | nil => cases e
  | @cons g v d' fs ds o t ih =>
    rw [List.lookup_cons] at e ⊢
    cases c : f == g with
    | true => rw [c] at e; cases e; exact ⟨v, rfl, o⟩
    | false => rw [c] at e; exact ih e
theorem Fds.map {H' : Hp} {S' : AS} {fs : List (Str × V)} {ds : List (Str × Dt)} (k : ∀ v d, Oc H S v d → Oc H' S' v d) (h : Fds H S fs ds) : Fds H' S' fs ds := by
  induction h with
  | nil => exact .nil
  | cons o t ih => exact .cons (k _ _ o) ih
theorem Fds.snoc {fs : List (Str × V)} {ds : List (Str × Dt)} {f : Str} {v : V} {d : Dt} (h : Fds H S fs ds) (o : Oc H S v d) : Fds H S (fs ++ [(f, v)]) (ds ++ [(f, d)]) := by
  induction h with
  | nil => exact .cons o .nil
  | cons o' t ih => exact .cons o' ih
theorem Fds.len {fs : List (Str × V)} {ds : List (Str × Dt)} (h : Fds H S fs ds) : fs.length = ds.length := by
  induction h with
  | nil => rfl
  | cons _ _ ih => rw [List.length_cons, List.length_cons, ih]
theorem Fds.new {fs : List (Str × V)} {ds : List (Str × Dt)} {f : Str} {y : V} (h : Fds H S fs ds) (e : ds.lookup f = none) : putF f y fs = fs ++ [(f, y)] := by
  induction h with
  | nil => rfl
  | @cons g v d' fs ds o t ih =>
    rw [List.lookup_cons] at e
    have ne : (f == g) = false := by
      cases c : f == g with
      | true => rw [c] at e; cases e
      | false => rfl
    rw [ne] at e
    have ng : ¬ g = f := fun z => by subst z; simp at ne
    show (if g = f then _ else (g, v) :: putF f y fs) = _
    rw [if_neg ng, ih e]; rfl
/-! ### instances -/
def InsAt (H : Hp) (S : AS) (C : Addr) (v : V) (ds : List (Str × Dt)) : Prop := ∃ p dx fs, v = .ref p ∧ H p = some (.ins C dx fs) ∧ ¬ S p ∧ Fds H S fs ds
theorem InsAt.but {H' : Hp} {C : Addr} {v : V} {ds : List (Str × Dt)} (b : ButS S H H') (h : InsAt H S C v ds) : InsAt H' S C v ds := by
  obtain ⟨p, dx, fs, rfl, e, n, f⟩ := h
  exact ⟨p, dx, fs, rfl, b _ _ n e, n, f.map fun _ _ o => o.but b⟩
theorem InsAt.same {H' : Hp} {C : Addr} {v : V} {ds : List (Str × Dt)} (k : Same H H') (h : InsAt H S C v ds) : InsAt H' S C v ds := h.but (Same.butS k)
theorem InsAt.sub {S' : AS} {C : Addr} {v : V} {ds : List (Str × Dt)} (k : ∀ a, S' a → S a) (h : InsAt H S C v ds) : InsAt H S' C v ds := by
  obtain ⟨p, dx, fs, rfl, e, n, f⟩ := h
  exact ⟨p, dx, fs, rfl, e, fun z => n (k _ z), f.map fun _ _ o => o.sub k⟩
inductive Inss (H : Hp) (S : AS) (C : Addr) : List V → List (List (Str × Dt)) → Prop where
  | nil : Inss H S C [] []
  | cons {v : V} {d : List (Str × Dt)} {vs : List V} {ds : List (List (Str × Dt))} (h : InsAt H S C v d) (t : Inss H S C vs ds) : Inss H S C (v :: vs) (d :: ds)
theorem Inss.map {H' : Hp} {S' : AS} {C : Addr} {vs : List V} {ds : List (List (Str × Dt))} (k : ∀ v d, InsAt H S C v d → InsAt H' S' C v d) (h : Inss H S C vs ds) : Inss H' S' C vs ds := by
  induction h with
  | nil => exact .nil
  | cons o t ih => exact .cons (k _ _ o) ih
theorem Inss.snoc {C : Addr} {vs : List V} {ds : List (List (Str × Dt))} {v : V} {d : List (Str × Dt)} (h : Inss H S C vs ds) (o : InsAt H S C v d) : Inss H S C (vs ++ [v]) (ds ++ [d]) := by
  induction h with
  | nil => exact .cons o .nil
  | cons o' t ih => exact .cons o' ih
theorem Inss.len {C : Addr} {vs : List V} {ds : List (List (Str × Dt))} (h : Inss H S C vs ds) : vs.length = ds.length := by
  induction h with
  | nil => rfl
  | cons _ _ ih => rw [List.length_cons, List.length_cons, ih]
theorem Inss.at {C : Addr} {vs : List V} {ds : List (List (Str × Dt))} (h : Inss H S C vs ds) : ∀ {i : Nat} {d : List (Str × Dt)}, ds[i]? = some d → ∃ v, vs[i]? = some v ∧ InsAt H S C v d := by
  induction h with
  | nil => intro i d e; simp at e
  | cons o t ih =>
    intro i d e
    cases i with
    | zero =>
      have e := Option.some.inj (show some _ = some _ from e)
      subst e; exact ⟨_, rfl, o⟩
    | succ i => exact ih (i := i) (by simpa using e)
/-- a list of instances -/
def InssAt (H : Hp) (S : AS) (C : Addr) (v : V) (ds : List (List (Str × Dt))) : Prop := ∃ p vs, v = .ref p ∧ H p = some (.lst vs) ∧ ¬ S p ∧ Inss H S C vs ds
theorem InssAt.but {H' : Hp} {C : Addr} {v : V} {ds : List (List (Str × Dt))} (b : ButS S H H') (h : InssAt H S C v ds) : InssAt H' S C v ds := by
  obtain ⟨p, vs, rfl, e, n, f⟩ := h
  exact ⟨p, vs, rfl, b _ _ n e, n, f.map fun _ _ o => o.but b⟩
theorem InssAt.sub {S' : AS} {C : Addr} {v : V} {ds : List (List (Str × Dt))} (k : ∀ a, S' a → S a) (h : InssAt H S C v ds) : InssAt H S' C v ds := by
  obtain ⟨p, vs, rfl, e, n, f⟩ := h
  exact ⟨p, vs, rfl, e, fun z => n (k _ z), f.map fun _ _ o => o.sub k⟩
/-! ### reading a field -/
theorem D_fld {i : Nat} {p C dx : Addr} {fs : List (Str × V)} {f : Str} {v : V} {d : Dt} (hj : σ[i]? = some (some (.ref p))) (hp : H p = some (.ins C dx fs)) (c : Cls K C) (n : NoAttr K C f) (hl : fs.lookup f = some v) (o : Oc H S v d) : DE (tFld K (tVar i) f) σ H S d := fun H1 S1 Q x q =>
  ⟨_, hj, p, C, dx, fs, v, rfl, x.same _ _ hp, c, n, hl, q _ _ (fun _ _ z => z) (x.ob o)⟩
/-! ### what an __init__ has made so far -/
structure Ini (H0 : Hp) (S : AS) (x C dx : Addr) (ds : List (Str × Dt)) (H : Hp) : Prop where
  at_ : ∃ fs, H x = some (.ins C dx fs) ∧ Fds H S fs ds
  but : ∀ b o, b ≠ x → H0 b = some o → H b = some o
  lv : Lv H S
theorem Ini.ob {H0 : Hp} {x C dx : Addr} {ds : List (Str × Dt)} {v : V} {d : Dt} (I : Ini H0 S x C dx ds H) (sx : S x) (o : Oc H0 S v d) : Oc H S v d := o.but fun b u n e => I.but b u (fun z => n (z ▸ sx)) e
theorem Ini.step {H0 H2 : Hp} {x C dx : Addr} {ds : List (Str × Dt)} {fs : List (Str × V)} {f : Str} {y : V} {d : Dt} (I : Ini H0 S x C dx ds H) (sx : S x) (e : H x = some (.ins C dx fs)) (F : Fds H S fs ds) (k : Same H H2) (o : Oc H2 S y d) : Ini H0 S x C dx (ds ++ [(f, d)]) (upd H2 x (.ins C dx (fs ++ [(f, y)]))) := by
  refine ⟨⟨_, upd_same, (F.map fun v d o => (o.same k).put sx).snoc (o.put sx)⟩, fun b u nb hb => ?_, fun a ha z => ?_⟩
  · rw [upd_ne nb]; exact k _ _ (I.but b u nb hb)
  · by_cases c : a = x
    · subst c; rw [upd_same] at z; cases z
    · rw [upd_ne c] at z; exact Lv.same k I.lv a ha z
theorem Ini.same {H0 H2 : Hp} {x C dx : Addr} {ds : List (Str × Dt)} (I : Ini H0 S x C dx ds H) (k : Same H H2) : Ini H0 S x C dx ds H2 := by
  obtain ⟨fs, e, F⟩ := I.at_
  exact ⟨⟨fs, k _ _ e, F.map fun _ _ o => o.same k⟩, fun b u nb hb => k _ _ (I.but b u nb hb), Lv.same k I.lv⟩
theorem D_self {H0 : Hp} {x C dx : Addr} {ds : List (Str × Dt)} {f : Str} {d : Dt} (I : Ini H0 S x C dx ds H) (hj : σ[0]? = some (some (.ref x))) (c : Cls K C) (n : NoAttr K C f) (e : ds.lookup f = some d) : DE (tFld K (tVar 0) f) σ H S d := by
  obtain ⟨fs, h, F⟩ := I.at_
  obtain ⟨v, hl, o⟩ := F.get e
  exact D_fld hj h c n hl o
theorem S_fld {H0 : Hp} {x C dx : Addr} {ds : List (Str × Dt)} {f : Str} {d : Dt} {tv : TE} {u : TS} {D : Ends} (I : Ini H0 S x C dx ds H) (sx : S x) (hj : σ[0]? = some (some (.ref x))) (h : DE tv σ H S d) (c : Cls K C) (n : NoAttr K C f) (e : ds.lookup f = none) (hl : ds.length < 900)
    (k : ∀ H3, Ini H0 S x C dx (ds ++ [(f, d)]) H3 → u D σ H3) : tSeq (sFld K (tVar 0) tv f) u D σ H := by
  refine h.go I.lv fun y H2 k2 o => ?_
  obtain ⟨fs, hx, F⟩ := I.at_
  refine ⟨_, hj, x, C, dx, fs, rfl, k2 _ _ hx, c, n, by rw [F.len]; omega, ?_⟩
  rw [F.new e]
  exact k _ (I.step sx hx F k2 o)
theorem S_fld1 {H0 : Hp} {x C dx : Addr} {ds : List (Str × Dt)} {f : Str} {d : Dt} {tv : TE} {D : Ends} (I : Ini H0 S x C dx ds H) (sx : S x) (hj : σ[0]? = some (some (.ref x))) (h : DE tv σ H S d) (c : Cls K C) (n : NoAttr K C f) (e : ds.lookup f = none) (hl : ds.length < 900)
    (k : ∀ H3, Ini H0 S x C dx (ds ++ [(f, d)]) H3 → D.nx σ H3) : sFld K (tVar 0) tv f D σ H := by
  refine h.go I.lv fun y H2 k2 o => ?_
  obtain ⟨fs, hx, F⟩ := I.at_
  refine ⟨_, hj, x, C, dx, fs, rfl, k2 _ _ hx, c, n, by rw [F.len]; omega, ?_⟩
  rw [F.new e]
  exact k _ (I.step sx hx F k2 o)
/-- an __init__ that puts data of its arguments into the fields -/
def spInit (C : Addr) (ok : List Dt → Prop) (f : List Dt → List (Str × Dt)) : Sp := fun vs H Q _ => ∃ (x dx : Addr) (S : AS) (us : List V) (ds : List Dt), vs = .ref x :: us ∧ H x = some (.ins C dx []) ∧ S x ∧ Lv H S ∧ Ocs H S us ds ∧ ok ds ∧ ∀ H', Ini H S x C dx (f ds) H' → Q .non H'
theorem make_ins {C : Addr} {ok : List Dt → Prop} {f : List Dt → List (Str × Dt)} {E : XK} {t : TA} {ds : List Dt} (ha : DA t σ H S ds) (ho : ok ds) {H1 : Hp} {S1 : AS} {Q : VK} (x : Lift H S H1 S1) (q : ∀ v H2, Same H1 H2 → InsAt H2 S1 C v (f ds) → Q v H2) : tMake C (spInit C ok f) [] E t σ H1 Q := by
  refine ha H1 S1 _ x fun vs H2 k o => ?_
  intro a dx na nd ne
  have hd := same_upd (o := .own a) nd
  have ea : upd H2 dx (.own a) a = none := by rw [upd_ne (Ne.symm ne)]; exact na
  have lv2 := Lv.same hd (Lv.same k x.live)
  have o2 := ((o.same hd).add ea).put (D := a) (o := .ins C dx []) (.inr rfl)
  refine ⟨a, dx, And1 S1 a, vs, ds, by rw [List.append_nil], upd_same, .inr rfl, lv2.add ea, o2, ho, fun H' I => ⟨rfl, ?_⟩⟩
  obtain ⟨fs, e, F⟩ := I.at_
  refine q _ _ (fun b u hb => ?_) ⟨a, dx, fs, rfl, e, Lv.out lv2 ea, F.map fun _ _ o => o.sub fun _ h => .inl h⟩
  have hb2 := k _ _ hb
  have nb : b ≠ a := fun z => by rw [z, na] at hb2; cases hb2
  refine I.but b u nb ?_
  rw [upd_ne nb]
  exact hd _ _ hb2
/-! ### a list of new instances -/
structure MadeI (H2 : Hp) (S : AS) (C D : Addr) (ds : List (List (Str × Dt))) (H' : Hp) : Prop where
  same : Same H2 H'
  acc : ∃ vs, H' D = some (.lst vs) ∧ Inss H' (And1 S D) C vs ds
theorem lc_ins {C : Addr} {te tn : TE} {j n : Nat} {f : Nat → List (Str × Dt)} (hn : DE tn σ H S (.int (n : Nat))) (hz : n ≤ 999999) (hw : ∀ x : V, wipe ((wipe σ [j]).set j (some x)) [j] = wipe σ [j]) (lv : Lv H S)
    (hs : ∀ (i : Nat) H1 S1 (R : VK), i < n → Lift H S H1 S1 → (∀ v H2, Same H1 H2 → InsAt H2 S1 C v (f i) → R v H2) → te ((wipe σ [j]).set j (some (.int (i : Nat)))) H1 R) {Q : VK} (q : ∀ v H2, Same H H2 → InssAt H2 S C v ((List.range n).map f) → Q v H2) : tLc (iRng1 (tCons tn tNil)) (gName j) tYes te [j] σ H Q := by
  refine hn.go lv fun v H2 k o => ?_
  have e := o.int_inv
  subst e
  have L2 := Lv.same k lv
  have x := (Lift.refl lv).then k
  refine ⟨_, rfl, by omega, by omega, fun D hD => ?_⟩
  have et : ((n : Nat) : Int).toNat = n := Int.toNat_natCast n
  rw [et]
  refine lc_range (lo := 0) (n := n) (fun i H' => MadeI H2 S C D ((List.range i).map f) H') ⟨same_upd hD, [], upd_same, .nil⟩ ?_ ?_
  · intro i H' hi m
    rw [Int.zero_add]
    obtain ⟨vs, ev, oi⟩ := m.acc
    have lf : Lift H2 S H' (And1 S D) := by
      refine ⟨fun h => (h.add hD).same m.same, fun a ha z => ?_, fun a h => .inl h, m.same⟩
      rcases ha with ha | ha
      · exact Lv.same m.same L2 a ha z
      · rw [ha, ev] at z; cases z
    refine ⟨hw _, hs i H' _ _ hi (x.trans lf) fun y H4 k4 o4 => ?_⟩
    refine ⟨vs, k4 _ _ ev, Nat.lt_of_lt_of_le (show _ < 1000000 by rw [oi.len, List.length_map, List.length_range]; omega) (by decide), fun b u hb => ?_, _, upd_same, ?_⟩
    · rw [upd_ne (ne_of_none hb hD)]
      exact k4 _ _ (m.same _ _ hb)
    · rw [List.range_succ, List.map_append]
      have kb : ButS (And1 S D) H4 (upd H4 D (.lst (vs ++ [y]))) := fun b u nb e => by
        rw [upd_ne (fun z => nb (.inr z))]; exact e
      exact ((oi.map fun _ _ o => o.same k4).snoc o4).map fun _ _ o => o.but kb
  · intro H' m
    obtain ⟨vs, ev, oi⟩ := m.acc
    exact q _ _ (k.trans m.same) ⟨D, vs, rfl, ev, Lv.out L2 hD, oi.map fun _ _ o => o.sub fun _ h => .inl h⟩
end
end Lc
namespace Lc
open PySem PySem.Spec PyProof.Rows L2 RZ PySem.W
section
variable {σ : L2.St} {H : Hp} {S : AS} {K : PySem.W.Frag}
theorem D_bl (b : Bool) : DE (tC (.bl b)) σ H S (.bl b) := fun H1 S1 Q x q => q _ _ (fun _ _ z => z) (.bl b)
theorem D_if {tt : TT} {ta tb : TE} {b : Bool} {d : Dt} (ht : DT tt σ H S b) (h1 : b = true → DE ta σ H S d) (h0 : b = false → DE tb σ H S d) : DE (tIf tt ta tb) σ H S d := fun H1 S1 Q x q =>
  ht H1 S1 _ x fun H2 k => by
    cases b with
    | true => exact iteT ((h1 rfl) H2 S1 _ (x.then k) fun v H3 k3 o3 => q _ _ (k.trans k3) o3)
    | false => exact iteF ((h0 rfl) H2 S1 _ (x.then k) fun v H3 k3 o3 => q _ _ (k.trans k3) o3)
theorem T_truL {te : TE} {ds : List Dt} (h : DE te σ H S (.lst ds)) : DT (fun σ H Q => te σ H fun x H' => ∃ k, TruV K x H' k ∧ Q k H') σ H S (!ds.isEmpty) := fun H1 S1 Q x q =>
  h H1 S1 _ x fun v H2 k o => by
    obtain ⟨a, xs, rfl, ea, na, oa⟩ := o.lst_inv
    refine ⟨!xs.isEmpty, ?_, ?_⟩
    · exact .inl ⟨xs, SqL.of ea, rfl⟩
    · have e : xs.isEmpty = ds.isEmpty := by
        have := oa.len
        cases xs <;> cases ds <;> simp_all
      rw [e]; exact q _ k
theorem T_eqS {ta tb : TE} {a b : Str} (ha : DE ta σ H S (.str a)) (hb : DE tb σ H S (.str b)) : DT (tTest (tOp rEq ta tb)) σ H S (decide (a = b)) := fun H1 S1 Q x q =>
  ha H1 S1 _ x fun v H2 k o => (hb.lift (x.then k)).go (Lv.same k x.live) fun u H3 k3 o3 => by
    have e1 := (o.same k3).str_inv
    have e2 := o3.str_inv
    subst e1; subst e2
    refine ⟨rfl, _, rfl, ?_⟩
    have e : (decide (V.str a = V.str b)) = decide (a = b) := by
      by_cases c : a = b
      · subst c; simp
      · rw [decide_eq_false c, decide_eq_false (fun z => c (V.str.inj z))]
    rw [e]; exact q _ (k.trans k3)
theorem D_gt {ta tb : TE} {a b : Int} (ha : DE ta σ H S (.int a)) (hb : DE tb σ H S (.int b)) : DE (tOp (rI0 fun i j => .bl (decide (j < i))) ta tb) σ H S (.bl (decide (b < a))) := fun H1 S1 Q x q =>
  ha H1 S1 _ x fun v H2 k o => (hb.lift (x.then k)).go (Lv.same k x.live) fun u H3 k3 o3 => by
    have e1 := (o.same k3).int_inv
    have e2 := o3.int_inv
    subst e1; subst e2
    exact ⟨_, _, rfl, rfl, q _ _ (k.trans k3) (.bl _)⟩
theorem D_any {tl : TE} {bs : List Bool} (hl : DE tl σ H S (.lst (bs.map Dt.bl))) : DE (tCB (rAny K) (tCons tl tNil)) σ H S (.bl (bs.any id)) := fun H1 S1 Q y q =>
  hl H1 S1 _ y fun v H2 k o => by
    obtain ⟨a, ys, rfl, ea, na, oa⟩ := o.lst_inv
    have e := oa.bls
    subst e
    exact ⟨a, bs, rfl, SqL.of ea, q _ _ k (.bl _)⟩
theorem T_val {te : TE} {b : Bool} (h : DE te σ H S (.bl b)) : DT (tB te) σ H S b := fun H1 S1 Q x q => h H1 S1 _ x fun v H2 k o => by
  rw [o.bl_inv]
  exact ⟨b, rfl, q H2 k⟩
theorem T_not {tt : TT} {b : Bool} (h : DT tt σ H S b) : DT (tNot tt) σ H S (!b) := fun H1 S1 Q x q => h H1 S1 _ x q
/-- the last of a list -/
theorem D_last {ta tb : TE} {ds : List Dt} {d : Dt} (ha : DE ta σ H S (.lst (ds ++ [d]))) : DE (tOp (rIxL K) ta (tUn (rU fun i => .int (-i)) (tC (.int 1)))) σ H S d := fun H1 S1 Q x q =>
  ha H1 S1 _ x fun v H2 k o => by
    obtain ⟨a, xs, rfl, ea, na, oa⟩ := o.lst_inv
    have l := oa.len
    rw [List.length_append, List.length_singleton] at l
    have e : xs = xs.dropLast ++ [xs.getLast (by intro z; subst z; simp at l)] := (List.dropLast_concat_getLast _).symm
    generalize xs.getLast (by intro z; subst z; simp at l) = y at e
    generalize xs.dropLast = ys at e
    subst e
    obtain ⟨d', e1, o1⟩ := oa.get (i := ys.length) (x := y) (by rw [List.getElem?_append_right (Nat.le_refl _), Nat.sub_self]; rfl)
    rw [List.length_append, List.length_singleton] at l
    have l2 : ys.length = ds.length := by omega
    rw [l2, List.getElem?_append_right (Nat.le_refl _), Nat.sub_self] at e1
    have e3 := Option.some.inj (show some d = some d' from e1)
    subst e3
    exact ⟨_, rfl, a, _, _, y, rfl, rfl, SqL.of ea, atI_last ys y, q _ _ k o1⟩
/-! ### slices of tuples without a dict -/
theorem ocs_take {vs : List V} {ds : List Dt} (n : Nat) (h : Ocs H S vs ds) : Ocs H S (vs.take n) (ds.take n) := by
  induction n generalizing vs ds with
  | zero => rw [List.take_zero, List.take_zero]; exact .nil
  | succ n ih =>
    cases h with
    | nil => exact .nil
    | cons h t => exact .cons h (ih t)
theorem ocs_drop {vs : List V} {ds : List Dt} (n : Nat) (h : Ocs H S vs ds) : Ocs H S (vs.drop n) (ds.drop n) := by
  induction n generalizing vs ds with
  | zero => exact h
  | succ n ih =>
    cases h with
    | nil => exact .nil
    | cons h t => exact ih t
def sub3 (ds : List Dt) (lo : Nat) (hi : Option Nat) : List Dt := match hi with
  | none => ds.drop lo
  | some k => (ds.drop lo).take (k - lo)
def hiN (n : Nat) : Option Nat → Nat
  | none => n
  | some k => min k n
theorem slF_go {v : V} {ds : List Dt} {lo : Nat} {hi : Option Nat} {l : Option Int} {Q : VK} (hl : l = none ∧ lo = 0 ∨ l = some (lo : Int)) (o : Oc H S v (.tup true ds)) (lv : Lv H S) (q : ∀ u H2, Same H H2 → Oc H2 S u (.tup true (sub3 ds lo hi)) → Q u H2) : rSlF K v l (hi.map fun k => ((k : Nat) : Int)) H Q := by
  obtain ⟨a, xs, rfl, ea, na, oa⟩ := o.tup_inv
  have n1 := oa.len
  have e1 : HT.sIx xs.length 0 l = min lo xs.length := by
    rcases hl with ⟨rfl, rfl⟩ | rfl
    · rw [HT.sIx_none]; omega
    · exact HT.sIx_nat _ _ _
  have e2 : HT.sIx xs.length xs.length (hi.map fun k => ((k : Nat) : Int)) = hiN xs.length hi := by
    cases hi with
    | none => rfl
    | some k => exact HT.sIx_nat _ _ _
  have oc : Ocs H S (cutV xs l (hi.map fun k => ((k : Nat) : Int))) (sub3 ds lo hi) := by
    have h0 := ocs_take (hiN xs.length hi - min lo xs.length) (ocs_drop (min lo xs.length) oa)
    have e3 : cutV xs l (hi.map fun k => ((k : Nat) : Int)) = (xs.drop (min lo xs.length)).take (hiN xs.length hi - min lo xs.length) := by
      unfold cutV
      rw [e1, e2]
    have e4 : (ds.drop (min lo xs.length)).take (hiN xs.length hi - min lo xs.length) = sub3 ds lo hi := by
      rw [n1]
      have d1 : ds.drop (min lo ds.length) = ds.drop lo := by
        by_cases c : lo ≤ ds.length
        · rw [Nat.min_eq_left c]
        · rw [Nat.min_eq_right (by omega), List.drop_length, List.drop_eq_nil_of_le (by omega)]
      rw [d1]
      cases hi with
      | none => exact List.take_of_length_le (by rw [List.length_drop]; show ds.length - lo ≤ ds.length - min lo ds.length; omega)
      | some k =>
        show (ds.drop lo).take (min k ds.length - min lo ds.length) = (ds.drop lo).take (k - lo)
        by_cases c : k ≤ ds.length
        · by_cases c2 : lo ≤ ds.length
          · rw [Nat.min_eq_left c, Nat.min_eq_left c2]
          · rw [List.drop_eq_nil_of_le (by omega), List.take_nil, List.take_nil]
        · rw [List.take_of_length_le (by rw [List.length_drop]; omega), List.take_of_length_le (by rw [List.length_drop]; omega)]
    rw [e3, ← e4]; exact h0
  refine ⟨a, xs, rfl, ea.sq, fun w => ?_, fun w p H2 hp k tp => ?_⟩
  · refine q _ _ (fun _ _ z => z) (.tup ea na ?_)
    have e5 : cutV xs l (hi.map fun k => ((k : Nat) : Int)) = xs := by
      unfold cutV
      rw [w.1, w.2, List.drop_zero, Nat.sub_zero, List.take_length]
    rw [e5] at oc; exact oc
  · exact q _ _ k (.tup tp (Lv.out lv hp) (oc.same k))
theorem D_slTo {ts th : TE} {ds : List Dt} {k : Nat} (h : DE ts σ H S (.tup true ds)) (hh : DE th σ H S (.int (k : Nat))) : DE (tSl (rSlF K) ts tNoPart (tPart th)) σ H S (.tup true (ds.take k)) := fun H1 S1 Q x q =>
  h H1 S1 _ x fun v H2 k2 o => (hh.lift (x.then k2)).go (Lv.same k2 x.live) fun u H3 k3 o3 => by
    have e := o3.int_inv
    subst e
    refine ⟨_, rfl, slF_go (lo := 0) (hi := some k) (.inl ⟨rfl, rfl⟩) (o.same k3) (Lv.same k3 (Lv.same k2 x.live)) fun u H4 k4 o4 => q _ _ ((k2.trans k3).trans k4) ?_⟩
    rw [show ds.take k = sub3 ds 0 (some k) from rfl]; exact o4
theorem D_slFrom {ts tl : TE} {ds : List Dt} {k : Nat} (h : DE ts σ H S (.tup true ds)) (hl : DE tl σ H S (.int (k : Nat))) : DE (tSl (rSlF K) ts (tPart tl) tNoPart) σ H S (.tup true (ds.drop k)) := fun H1 S1 Q x q =>
  h H1 S1 _ x fun v H2 k2 o => (hl.lift (x.then k2)).go (Lv.same k2 x.live) fun u H3 k3 o3 => by
    have e := o3.int_inv
    subst e
    exact ⟨_, rfl, slF_go (lo := k) (hi := none) (.inr rfl) (o.same k3) (Lv.same k3 (Lv.same k2 x.live)) fun u H4 k4 o4 => q _ _ ((k2.trans k3).trans k4) o4⟩
theorem D_slMid {ts tl th : TE} {ds : List Dt} {k m : Nat} (h : DE ts σ H S (.tup true ds)) (hl : DE tl σ H S (.int (k : Nat))) (hh : DE th σ H S (.int (m : Nat))) : DE (tSl (rSlF K) ts (tPart tl) (tPart th)) σ H S (.tup true ((ds.drop k).take (m - k))) := fun H1 S1 Q x q =>
  h H1 S1 _ x fun v H2 k2 o => (hl.lift (x.then k2)).go (Lv.same k2 x.live) fun u H3 k3 o3 => by
    have e := o3.int_inv
    subst e
    refine ⟨_, rfl, (hh.lift ((x.then k2).then k3)).go (Lv.same k3 (Lv.same k2 x.live)) fun u H4 k4 o4 => ?_⟩
    have e := o4.int_inv
    subst e
    exact ⟨_, rfl, slF_go (lo := k) (hi := some m) (.inr rfl) ((o.same k3).same k4) (Lv.same k4 (Lv.same k3 (Lv.same k2 x.live))) fun u H5 k5 o5 => q _ _ (((k2.trans k3).trans k4).trans k5) o5⟩
/-- t.count(a text) of a tuple of texts without a dict -/
theorem D_count {to : TE} {ws : List Str} {k : Str} (h : DE to σ H S (.tup true (ws.map Dt.str))) : DE (tBMF (rTCnt K) to (tCons (tC (.str k)) tNil)) σ H S (.int ((ws.countP fun y => decide (y = k) : Nat))) := fun H1 S1 Q x q =>
  h H1 S1 _ x fun v H2 k2 o => by
    obtain ⟨a, xs, rfl, ea, na, oa⟩ := o.tup_inv
    have e := oa.strs
    subst e
    exact ⟨⟨a, _, rfl, ea⟩, a, ws, k, rfl, rfl, ea.sq, q _ _ k2 (.int _)⟩
end
end Lc
namespace Lc
open PySem PySem.Spec PyProof.Rows L2 RZ PySem.W
/-! ### what the slots hold, no heap in sight -/
/-- a slot: nothing known, a datum, a list of its own that may change, just that value -/
inductive Sl where | no | d (d : Dt) | o (ds : List Dt) | v (v : V)
abbrev Rho := List Sl
structure En (H : Hp) (S : AS) (σ : L2.St) (ρ : Rho) : Prop where
  len : σ.length = ρ.length
  lv : Lv H S
  dat : ∀ {i : Nat} {d : Dt}, ρ[i]? = some (.d d) → ∃ v, σ[i]? = some (some v) ∧ Oc H S v d
  own : ∀ {i : Nat} {ds : List Dt}, ρ[i]? = some (.o ds) → ∃ a vs, σ[i]? = some (some (.ref a)) ∧ S a ∧ H a = some (.lst vs) ∧ Ocs H S vs ds
  val : ∀ {i : Nat} {u : V}, ρ[i]? = some (.v u) → σ[i]? = some (some u)
  inj : ∀ {i j : Nat} {ds es : List Dt} {a : Addr}, ρ[i]? = some (.o ds) → ρ[j]? = some (.o es) → σ[i]? = some (some (.ref a)) → σ[j]? = some (some (.ref a)) → i = j
/-- data stay data -/
structure Mv (H : Hp) (S : AS) (H' : Hp) (S' : AS) : Prop where
  ob : ∀ {u : V} {e : Dt}, Oc H S u e → Oc H' S' u e
  lv : Lv H' S'
theorem Mv.refl {H : Hp} {S : AS} (l : Lv H S) : Mv H S H S := ⟨fun h => h, l⟩
theorem Mv.trans {H H1 H2 : Hp} {S S1 S2 : AS} (x : Mv H S H1 S1) (y : Mv H1 S1 H2 S2) : Mv H S H2 S2 := ⟨fun h => y.ob (x.ob h), y.lv⟩
theorem Lift.mv {H H' : Hp} {S S' : AS} (x : Lift H S H' S') : Mv H S H' S' := ⟨fun h => x.ob h, x.live⟩
theorem Mv.same {H H' : Hp} {S : AS} (l : Lv H S) (k : Same H H') : Mv H S H' S := ⟨fun h => h.same k, Lv.same k l⟩
theorem Mv.obs {H H1 : Hp} {S S1 : AS} (x : Mv H S H1 S1) : ∀ {us : List V} {es : List Dt}, Ocs H S us es → Ocs H1 S1 us es
  | _, _, .nil => .nil
  | _, _, .cons h t => .cons (x.ob h) (Mv.obs x t)
section
variable {H H' : Hp} {S S' : AS} {σ : L2.St} {ρ : Rho} {K : PySem.W.Frag}
theorem En.lift (e : En H S σ ρ) (x : Lift H S H' S') : En H' S' σ ρ where
  len := e.len
  lv := x.live
  dat h := let ⟨v, hv, o⟩ := e.dat h; ⟨v, hv, x.ob o⟩
  own h := let ⟨a, vs, hv, sa, ha, o⟩ := e.own h; ⟨a, vs, hv, x.sub _ sa, x.same _ _ ha, x.obs o⟩
  val := e.val
  inj := e.inj
theorem En.same (e : En H S σ ρ) (k : Same H H') : En H' S σ ρ := e.lift ((Lift.refl e.lv).then k)
theorem sl_set {α : Type} {l : List α} {i j : Nat} {x y : α} (h : (l.set i x)[j]? = some y) : (i = j ∧ x = y) ∨ (i ≠ j ∧ l[j]? = some y) := by
  by_cases e : i = j
  · subst e
    by_cases hl : i < l.length
    · rw [List.getElem?_set_self hl] at h; exact .inl ⟨rfl, Option.some.inj h⟩
    · rw [List.getElem?_eq_none (by rw [List.length_set]; omega)] at h; cases h
  · rw [List.getElem?_set_ne e] at h; exact .inr ⟨e, h⟩
theorem En.set {i : Nat} {v : V} {d : Dt} (e : En H S σ ρ) (o : Oc H S v d) : En H S (σ.set i (some v)) (ρ.set i (.d d)) where
  len := by rw [List.length_set, List.length_set]; exact e.len
  lv := e.lv
  dat {j d'} h := by
    rcases sl_set h with ⟨rfl, z⟩ | ⟨ne, h⟩
    · cases z
      have hl : i < ρ.length := by
        have := (List.getElem?_eq_some_iff.mp h).1; rwa [List.length_set] at this
      exact ⟨v, List.getElem?_set_self (by rw [e.len]; exact hl), o⟩
    · obtain ⟨u, hu, ou⟩ := e.dat h
      exact ⟨u, by rw [List.getElem?_set_ne ne]; exact hu, ou⟩
  own {j ds} h := by
    rcases sl_set h with ⟨rfl, z⟩ | ⟨ne, h⟩
    · cases z
    · obtain ⟨a, vs, hu, x⟩ := e.own h
      exact ⟨a, vs, by rw [List.getElem?_set_ne ne]; exact hu, x⟩
  val {j u} h := by
    rcases sl_set h with ⟨rfl, z⟩ | ⟨ne, h⟩
    · cases z
    · rw [List.getElem?_set_ne ne]; exact e.val h
  inj {j k ds es a} h1 h2 g1 g2 := by
    rcases sl_set h1 with ⟨rfl, z⟩ | ⟨n1, h1⟩
    · cases z
    rcases sl_set h2 with ⟨rfl, z⟩ | ⟨n2, h2⟩
    · cases z
    rw [List.getElem?_set_ne n1] at g1
    rw [List.getElem?_set_ne n2] at g2
    exact e.inj h1 h2 g1 g2
theorem En.clr {i : Nat} {v : Option V} (e : En H S σ ρ) : En H S (σ.set i v) (ρ.set i .no) where
  len := by rw [List.length_set, List.length_set]; exact e.len
  lv := e.lv
  dat {j d'} h := by
    rcases sl_set h with ⟨rfl, z⟩ | ⟨ne, h⟩
    · cases z
    · obtain ⟨u, hu, ou⟩ := e.dat h
      exact ⟨u, by rw [List.getElem?_set_ne ne]; exact hu, ou⟩
  own {j ds} h := by
    rcases sl_set h with ⟨rfl, z⟩ | ⟨ne, h⟩
    · cases z
    · obtain ⟨a, vs, hu, x⟩ := e.own h
      exact ⟨a, vs, by rw [List.getElem?_set_ne ne]; exact hu, x⟩
  val {j u} h := by
    rcases sl_set h with ⟨rfl, z⟩ | ⟨ne, h⟩
    · cases z
    · rw [List.getElem?_set_ne ne]; exact e.val h
  inj {j k ds es a} h1 h2 g1 g2 := by
    rcases sl_set h1 with ⟨rfl, z⟩ | ⟨n1, h1⟩
    · cases z
    rcases sl_set h2 with ⟨rfl, z⟩ | ⟨n2, h2⟩
    · cases z
    rw [List.getElem?_set_ne n1] at g1
    rw [List.getElem?_set_ne n2] at g2
    exact e.inj h1 h2 g1 g2
/-- a new list of its own -/
theorem En.setO {i : Nat} {a : Addr} {vs : List V} {ds : List Dt} (e : En H S σ ρ) (k : Same H H') (na : H a = none) (ha : H' a = some (.lst vs)) (oc : Ocs H' (And1 S a) vs ds) : En H' (And1 S a) (σ.set i (some (.ref a))) (ρ.set i (.o ds)) where
  len := by rw [List.length_set, List.length_set]; exact e.len
  lv := fun b hb => by
    rcases hb with hb | rfl
    · exact Lv.same k e.lv b hb
    · rw [ha]; exact fun z => nomatch z
  dat {j d'} h := by
    rcases sl_set h with ⟨rfl, z⟩ | ⟨ne, h⟩
    · cases z
    · obtain ⟨u, hu, ou⟩ := e.dat h
      exact ⟨u, by rw [List.getElem?_set_ne ne]; exact hu, (ou.add na).same k⟩
  own {j ds'} h := by
    rcases sl_set h with ⟨rfl, z⟩ | ⟨ne, h⟩
    · cases z
      have hl : i < ρ.length := by
        have := (List.getElem?_eq_some_iff.mp h).1; rwa [List.length_set] at this
      exact ⟨a, vs, List.getElem?_set_self (by rw [e.len]; exact hl), .inr rfl, ha, oc⟩
    · obtain ⟨b, ws, hu, sb, hb, ob⟩ := e.own h
      exact ⟨b, ws, by rw [List.getElem?_set_ne ne]; exact hu, .inl sb, k _ _ hb, (ob.add na).same k⟩
  val {j u} h := by
    rcases sl_set h with ⟨rfl, z⟩ | ⟨ne, h⟩
    · cases z
    · rw [List.getElem?_set_ne ne]; exact e.val h
  inj {j k' ds' es b} h1 h2 g1 g2 := by
    rcases sl_set h1 with ⟨rfl, z⟩ | ⟨n1, h1⟩ <;> rcases sl_set h2 with ⟨rfl, z2⟩ | ⟨n2, h2⟩
    · rfl
    · have hl : i < σ.length := by
        have := (List.getElem?_eq_some_iff.mp g1).1; rwa [List.length_set] at this
      rw [List.getElem?_set_self hl] at g1
      rw [List.getElem?_set_ne n2] at g2
      cases g1
      obtain ⟨c, ws, hc, _, hb, _⟩ := e.own h2
      rw [g2] at hc; cases hc
      rw [na] at hb; cases hb
    · have hl : i < σ.length := by
        have := (List.getElem?_eq_some_iff.mp g2).1; rwa [List.length_set] at this
      rw [List.getElem?_set_self hl] at g2
      rw [List.getElem?_set_ne n1] at g1
      cases g2
      obtain ⟨c, ws, hc, _, hb, _⟩ := e.own h1
      rw [g1] at hc; cases hc
      rw [na] at hb; cases hb
    · rw [List.getElem?_set_ne n1] at g1
      rw [List.getElem?_set_ne n2] at g2
      exact e.inj h1 h2 g1 g2
/-- a list of its own changes -/
theorem En.put {i : Nat} {a : Addr} {ws : List V} {ds es : List Dt} (e : En H S σ ρ) (hi : ρ[i]? = some (.o ds)) (ha : σ[i]? = some (some (.ref a))) (oc : Ocs H S ws es) : En (upd H a (.lst ws)) S σ (ρ.set i (.o es)) where
  len := by rw [List.length_set]; exact e.len
  lv := fun b hb z => by
    by_cases c : b = a
    · subst c; rw [upd_same] at z; cases z
    · rw [upd_ne c] at z; exact e.lv b hb z
  dat {j d'} h := by
    rcases sl_set h with ⟨rfl, z⟩ | ⟨ne, h⟩
    · cases z
    · obtain ⟨u, hu, ou⟩ := e.dat h
      obtain ⟨b, _, hb, sb, _⟩ := e.own hi
      rw [ha] at hb; cases hb
      exact ⟨u, hu, ou.put sb⟩
  own {j ds'} h := by
    obtain ⟨b, _, hb, sb, _⟩ := e.own hi
    rw [ha] at hb; cases hb
    rcases sl_set h with ⟨rfl, z⟩ | ⟨ne, h⟩
    · cases z
      exact ⟨a, ws, ha, sb, upd_same, oc.put sb⟩
    · obtain ⟨c, us, hu, sc, hc, oc2⟩ := e.own h
      have nc : c ≠ a := fun z => by subst z; exact ne (e.inj hi h ha hu)
      exact ⟨c, us, hu, sc, by rw [upd_ne nc]; exact hc, oc2.put sb⟩
  val {j u} h := by
    rcases sl_set h with ⟨rfl, z⟩ | ⟨ne, h⟩
    · cases z
    · exact e.val h
  inj {j k' ds' es' b} h1 h2 g1 g2 := by
    have f : ∀ {j : Nat} {es' : List Dt}, (ρ.set i (.o es))[j]? = some (.o es') → ∃ x, ρ[j]? = some (.o x) := fun h => by
      rcases sl_set h with ⟨rfl, z⟩ | ⟨ne, h⟩
      · exact ⟨_, hi⟩
      · exact ⟨_, h⟩
    obtain ⟨x, h1⟩ := f h1
    obtain ⟨y, h2⟩ := f h2
    exact e.inj h1 h2 g1 g2
/-- a list of its own is a datum from now on -/
theorem En.frz {i : Nat} {a : Addr} {ds : List Dt} (e : En H S σ ρ) (hi : ρ[i]? = some (.o ds)) (ha : σ[i]? = some (some (.ref a))) : En H (fun b => S b ∧ b ≠ a) σ (ρ.set i (.d (.lst ds))) where
  len := by rw [List.length_set]; exact e.len
  lv := fun b hb => e.lv b hb.1
  dat {j d'} h := by
    rcases sl_set h with ⟨rfl, z⟩ | ⟨ne, h⟩
    · cases z
      obtain ⟨b, vs, hb, sb, hv, ov⟩ := e.own hi
      rw [ha] at hb; cases hb
      exact ⟨_, ha, .lst hv (fun z => z.2 rfl) (ov.sub fun _ z => z.1)⟩
    · obtain ⟨u, hu, ou⟩ := e.dat h
      exact ⟨u, hu, ou.sub fun _ z => z.1⟩
  own {j ds'} h := by
    rcases sl_set h with ⟨rfl, z⟩ | ⟨ne, h⟩
    · cases z
    · obtain ⟨c, us, hu, sc, hc, oc2⟩ := e.own h
      have nc : c ≠ a := fun z => by subst z; exact ne (e.inj hi h ha hu)
      exact ⟨c, us, hu, ⟨sc, nc⟩, hc, oc2.sub fun _ z => z.1⟩
  val {j u} h := by
    rcases sl_set h with ⟨rfl, z⟩ | ⟨ne, h⟩
    · cases z
    · exact e.val h
  inj {j k' ds' es' b} h1 h2 g1 g2 := by
    rcases sl_set h1 with ⟨rfl, z⟩ | ⟨n1, h1⟩
    · cases z
    rcases sl_set h2 with ⟨rfl, z⟩ | ⟨n2, h2⟩
    · cases z
    exact e.inj h1 h2 g1 g2
def wipeR (ρ : Rho) : List Nat → Rho
  | [] => ρ
  | v :: vs => (wipeR ρ vs).set v .no
theorem En.wipe (e : En H S σ ρ) : ∀ vs : List Nat, En H S (L2.wipe σ vs) (wipeR ρ vs)
  | [] => e
  | v :: vs => (En.wipe e vs).clr

theorem wipe_set {σ : L2.St} {v : Option V} {i : Nat} : ∀ {vs : List Nat}, i ∈ vs → L2.wipe (σ.set i v) vs = L2.wipe σ vs
  | j :: vs, h => by
    show (L2.wipe (σ.set i v) vs).set j none = (L2.wipe σ vs).set j none
    by_cases c : i ∈ vs
    · rw [wipe_set c]
    · have e : i = j := by
        rcases List.mem_cons.mp h with e | e
        · exact e
        · exact absurd e c
      subst e
      have f : ∀ us : List Nat, i ∉ us → L2.wipe (σ.set i v) us = (L2.wipe σ us).set i v := by
        intro us
        induction us with
        | nil => intro _; rfl
        | cons k us ih =>
          intro hn
          show (L2.wipe (σ.set i v) us).set k none = ((L2.wipe σ us).set k none).set i v
          have hk : i ≠ k := fun z => hn (z ▸ List.mem_cons_self)
          rw [ih (fun z => hn (List.mem_cons_of_mem _ z)), List.set_comm _ _ hk]
      rw [f vs c, List.set_set]
theorem wipe_wipe (σ : L2.St) (vs : List Nat) : L2.wipe (L2.wipe σ vs) vs = L2.wipe σ vs := by
  have g : ∀ (us : List Nat) (τ : L2.St), (∀ x ∈ us, x ∈ vs) → L2.wipe (L2.wipe τ us) vs = L2.wipe τ vs := by
    intro us
    induction us with
    | nil => intro τ _; rfl
    | cons k us ih =>
      intro τ h
      show L2.wipe ((L2.wipe τ us).set k none) vs = _
      rw [wipe_set (h k List.mem_cons_self)]
      exact ih τ fun x hx => h x (List.mem_cons_of_mem _ hx)
  exact g vs σ fun _ h => h
end
/-! ### expressions -/
def Ep (te : TE) (ρ : Rho) (d : Dt) : Prop := ∀ H S σ, En H S σ ρ → DE te σ H S d
def Et (tt : TT) (ρ : Rho) (b : Bool) : Prop := ∀ H S σ, En H S σ ρ → DT tt σ H S b
def Ea (ta : TA) (ρ : Rho) (ds : List Dt) : Prop := ∀ H S σ, En H S σ ρ → DA ta σ H S ds
/-- a list to be read -/
def El (te : TE) (ρ : Rho) (ds : List Dt) : Prop := ∀ H S σ (Q : VK), En H S σ ρ → (∀ a vs H2, Same H H2 → H2 a = some (.lst vs) → Ocs H2 S vs ds → Q (.ref a) H2) → te σ H Q
/-- a new list -/
def Ef (te : TE) (ρ : Rho) (ds : List Dt) : Prop := ∀ H S σ (Q : VK), En H S σ ρ → (∀ a vs H2, Same H H2 → H a = none → H2 a = some (.lst vs) → Ocs H2 (And1 S a) vs ds → Q (.ref a) H2) → te σ H Q
section
variable {ρ : Rho} {K : PySem.W.Frag} {te ta tb tl : TE} {tt tu : TT} {d e : Dt} {ds es : List Dt} {i j : Int}
theorem Ep.go {H : Hp} {S : AS} {σ : L2.St} {Q : VK} (h : Ep te ρ d) (en : En H S σ ρ) (q : ∀ v H2, Same H H2 → Oc H2 S v d → Q v H2) : te σ H Q := (h H S σ en).go en.lv q
theorem Et.go {H : Hp} {S : AS} {σ : L2.St} {Q : Bool → Hp → Prop} {b : Bool} (h : Et tt ρ b) (en : En H S σ ρ) (q : ∀ H2, Same H H2 → Q b H2) : tt σ H Q := (h H S σ en).go en.lv q
theorem Ef.l (h : Ef te ρ ds) : El te ρ ds := fun H S σ Q en q => h H S σ Q en fun a vs H2 k na ha oc => q a vs H2 k ha (oc.sub fun _ z => .inl z)
theorem Ep.l (h : Ep te ρ (.lst ds)) : El te ρ ds := fun H S σ Q en q => h.go en fun v H2 k o => by
  obtain ⟨a, vs, rfl, ha, _, oc⟩ := o.lst_inv
  exact q a vs H2 k ha oc
theorem Ef.p (h : Ef te ρ ds) : Ep te ρ (.lst ds) := fun H S σ en H1 S1 Q x q => h H1 S1 σ Q (en.lift x) fun a vs H2 k na ha oc => q _ _ k (.lst ha (Lv.out x.live na) (oc.sub fun _ z => .inl z))
theorem E_var {i : Nat} (h : ρ[i]? = some (.d d)) : Ep (tVar i) ρ d := fun H S σ en => by
  obtain ⟨v, hv, o⟩ := en.dat h
  exact D_var hv o
theorem E_own {i : Nat} (h : ρ[i]? = some (.o ds)) : El (tVar i) ρ ds := fun H S σ Q en q => by
  obtain ⟨a, vs, hv, _, ha, oc⟩ := en.own h
  exact ⟨_, hv, q a vs H (fun _ _ z => z) ha oc⟩
theorem E_int (i : Int) : Ep (tC (.int i)) ρ (.int i) := fun H S σ en => D_int i
theorem E_str (i : Str) : Ep (tC (.str i)) ρ (.str i) := fun H S σ en => D_str i
theorem E_bl (i : Bool) : Ep (tC (.bl i)) ρ (.bl i) := fun H S σ en => D_bl i
theorem E_non : Ep (tC .non) ρ .non := fun H S σ en H1 S1 Q x q => q _ _ (fun _ _ z => z) .non
theorem E_eq (h : Ep te ρ d) (z : d = e) : Ep te ρ e := z ▸ h
theorem Ef.eq (h : Ef te ρ ds) (z : ds = es) : Ef te ρ es := z ▸ h
theorem El.eq (h : El te ρ ds) (z : ds = es) : El te ρ es := z ▸ h
theorem Et.eq {b c : Bool} (h : Et tt ρ b) (z : b = c) : Et tt ρ c := z ▸ h
theorem Ea.eq {ta : TA} (h : Ea ta ρ ds) (z : ds = es) : Ea ta ρ es := z ▸ h
theorem E_add (ha : Ep ta ρ (.int i)) (hb : Ep tb ρ (.int j)) : Ep (tOp (rI0 fun i j => .int (i + j)) ta tb) ρ (.int (i + j)) := fun H S σ en => D_add (ha H S σ en) (hb H S σ en)
theorem E_sub (ha : Ep ta ρ (.int i)) (hb : Ep tb ρ (.int j)) : Ep (tOp (rI0 fun i j => .int (i - j)) ta tb) ρ (.int (i - j)) := fun H S σ en => D_sub (ha H S σ en) (hb H S σ en)
theorem E_op0 {f : Int → Int → V} {g : Int → Int → Dt} (hf : ∀ H S i j, Oc H S (f i j) (g i j)) (ha : Ep ta ρ (.int i)) (hb : Ep tb ρ (.int j)) : Ep (tOp (rI0 f) ta tb) ρ (g i j) := fun H S σ en H1 S1 Q x q =>
  (ha.go (en.lift x)) fun v H2 k o => (hb.go ((en.lift x).same k)) fun u H3 k3 o3 => by
    rw [o.int_inv, o3.int_inv]
    exact ⟨i, j, rfl, rfl, q _ _ (k.trans k3) (hf _ _ _ _)⟩
theorem E_lt (ha : Ep ta ρ (.int i)) (hb : Ep tb ρ (.int j)) : Ep (tOp (rI0 fun i j => .bl (decide (i < j))) ta tb) ρ (.bl (decide (i < j))) := E_op0 (g := fun i j => .bl (decide (i < j))) (fun _ _ _ _ => .bl _) ha hb
theorem E_le (ha : Ep ta ρ (.int i)) (hb : Ep tb ρ (.int j)) : Ep (tOp (rI0 fun i j => .bl (decide (i ≤ j))) ta tb) ρ (.bl (decide (i ≤ j))) := E_op0 (g := fun i j => .bl (decide (i ≤ j))) (fun _ _ _ _ => .bl _) ha hb
theorem E_gt (ha : Ep ta ρ (.int i)) (hb : Ep tb ρ (.int j)) : Ep (tOp (rI0 fun i j => .bl (decide (j < i))) ta tb) ρ (.bl (decide (j < i))) := E_op0 (g := fun i j => .bl (decide (j < i))) (fun _ _ _ _ => .bl _) ha hb
theorem E_ge (ha : Ep ta ρ (.int i)) (hb : Ep tb ρ (.int j)) : Ep (tOp (rI0 fun i j => .bl (decide (j ≤ i))) ta tb) ρ (.bl (decide (j ≤ i))) := E_op0 (g := fun i j => .bl (decide (j ≤ i))) (fun _ _ _ _ => .bl _) ha hb
theorem E_neg {n : Int} (h : Ep te ρ (.int n)) : Ep (tUn (rU fun i => .int (-i)) te) ρ (.int (-n)) := fun H S σ en H1 S1 Q x q => (h.go (en.lift x)) fun v H2 k o => by
  rw [o.int_inv]; exact ⟨n, rfl, q _ _ k (.int _)⟩
theorem E_nil : Ea tNil ρ [] := fun H S σ en => D_nil
theorem E_cons {t : TA} (h : Ep te ρ d) (ht : Ea t ρ ds) : Ea (tCons te t) ρ (d :: ds) := fun H S σ en => D_cons (h H S σ en) (ht H S σ en)
theorem E_starL {t : TA} (h : El te ρ ds) (ht : Ea t ρ es) : Ea (StX.tStar K te t) ρ (ds ++ es) := fun H S σ en H1 S1 Q x q =>
  h H1 S1 σ _ (en.lift x) fun a vs H2 k ha oa => ⟨a, vs, rfl, .inr (SqL.of ha), (ht H2 S1 σ ((en.lift x).same k)) H2 S1 _ (Lift.refl (Lv.same k x.live)) fun ws H3 k3 o3 => q _ _ (k.trans k3) ((oa.same k3).append o3)⟩
theorem E_starT {t : TA} {z : Bool} (h : Ep te ρ (.tup z ds)) (ht : Ea t ρ es) : Ea (StX.tStar K te t) ρ (ds ++ es) := fun H S σ en => D_starT (h H S σ en) (ht H S σ en)
theorem E_tup {t : TA} (h : Ea t ρ ds) (hz : ds.length ≤ 1000) : Ep (tTupF t) ρ (.tup true ds) := fun H S σ en => D_tup (h H S σ en) hz
theorem E_lst {t : TA} (h : Ea t ρ ds) (hz : ds.length ≤ 1000000) : Ef (tLst t) ρ ds := fun H S σ Q en q =>
  h H S σ en H S _ (Lift.refl en.lv) fun vs H2 k o => ⟨Nat.le_trans (show _ ≤ 1000000 by rw [o.len]; exact hz) (by decide), fun p hp => by
    have hn : H p = none := by
      cases c : H p with
      | none => rfl
      | some u => rw [k _ _ c] at hp; cases hp
    exact q p vs _ (k.trans (same_upd hp)) hn upd_same ((o.add hp).same (same_upd hp))⟩
theorem E_cat (ha : Ep ta ρ (.tup true ds)) (hb : Ep tb ρ (.tup true es)) (hz : ds.length + es.length ≤ 1000) : Ep (tOp (rCatF K) ta tb) ρ (.tup true (ds ++ es)) := fun H S σ en => D_cat (ha H S σ en) (hb H S σ en) hz
theorem E_catL (ha : El ta ρ ds) (hb : El tb ρ es) (hz : ds.length + es.length ≤ 1000000) : Ef (tOp rCat ta tb) ρ (ds ++ es) := fun H S σ Q en q =>
  ha H S σ _ en fun a xs H2 k ea oa => hb H2 S σ _ (en.same k) fun b ys H3 k3 eb ob => by
    have la := oa.len
    have lb := ob.len
    refine ⟨a, b, xs, ys, rfl, rfl, k3 _ _ ea, eb, Nat.le_trans (show _ ≤ 1000000 by omega) (by decide), fun p hp => ?_⟩
    have hn : H p = none := none_back (k.trans k3) hp
    exact q p _ _ ((k.trans k3).trans (same_upd hp)) hn upd_same ((((oa.same k3).append ob).add hp).same (same_upd hp))
theorem E_tupOf (h : El te ρ ds) : Ep (tTupOfF K te) ρ (.tup true ds) := fun H S σ en H1 S1 Q x q =>
  h H1 S1 σ _ (en.lift x) fun a vs H2 k ha oa => ⟨a, vs, rfl, SqL.of ha, fun p H3 hp k3 tp g => q _ _ (k.trans k3) (.tup tp (Lv.out (Lv.same k x.live) hp) (oa.same k3))⟩
theorem E_ixT {z : Bool} {n : Nat} (ha : Ep ta ρ (.tup z ds)) (hb : Ep tb ρ (.int (n : Nat))) (hd : ds[n]? = some d) : Ep (tOp (rIxT K) ta tb) ρ d := fun H S σ en => D_ixT (ha H S σ en) (hb H S σ en) hd
theorem E_ixL {n : Nat} (ha : El ta ρ ds) (hb : Ep tb ρ (.int (n : Nat))) (hd : ds[n]? = some d) : Ep (tOp (rIxL K) ta tb) ρ d := fun H S σ en H1 S1 Q x q =>
  ha H1 S1 σ _ (en.lift x) fun a xs H2 k ea oa => (hb.go ((en.lift x).same k)) fun u H3 k3 o3 => by
    have e := o3.int_inv
    subst e
    obtain ⟨w, hw, ow⟩ := (oa.same k3).at hd
    exact ⟨a, xs, _, w, rfl, rfl, SqL.of (k3 _ _ ea), atI_nat hw, q _ _ (k.trans k3) ow⟩
theorem E_last (ha : El ta ρ (ds ++ [d])) : Ep (tOp (rIxL K) ta (tUn (rU fun i => .int (-i)) (tC (.int 1)))) ρ d := fun H S σ en H1 S1 Q x q =>
  ha H1 S1 σ _ (en.lift x) fun a xs H2 k ea oa => by
    have l := oa.len
    rw [List.length_append, List.length_singleton] at l
    have e : xs = xs.dropLast ++ [xs.getLast (by intro z; subst z; simp at l)] := (List.dropLast_concat_getLast _).symm
    generalize xs.getLast (by intro z; subst z; simp at l) = y at e
    generalize xs.dropLast = ys at e
    subst e
    obtain ⟨d', e1, o1⟩ := oa.get (i := ys.length) (x := y) (by rw [List.getElem?_append_right (Nat.le_refl _), Nat.sub_self]; rfl)
    rw [List.length_append, List.length_singleton] at l
    have l2 : ys.length = ds.length := by omega
    rw [l2, List.getElem?_append_right (Nat.le_refl _), Nat.sub_self] at e1
    have e3 := Option.some.inj (show some d = some d' from e1)
    subst e3
    exact ⟨_, rfl, a, _, _, y, rfl, rfl, SqL.of ea, atI_last ys y, q _ _ k o1⟩
theorem E_lenL (h : El te ρ ds) : Ep (tCB (fun xs H Q => ∃ p ys, xs = [.ref p] ∧ (SqL K H p ys ∨ SqT K H p ys) ∧ Q (.int ys.length) H) (tCons te tNil)) ρ (.int (ds.length : Nat)) := fun H S σ en H1 S1 Q x q =>
  h H1 S1 σ _ (en.lift x) fun a vs H2 k ha oa => ⟨a, vs, rfl, .inl (SqL.of ha), by rw [oa.len]; exact q _ _ k (.int _)⟩
theorem E_lenT {z : Bool} (h : Ep te ρ (.tup z ds)) : Ep (tCB (fun xs H Q => ∃ p ys, xs = [.ref p] ∧ (SqL K H p ys ∨ SqT K H p ys) ∧ Q (.int ys.length) H) (tCons te tNil)) ρ (.int (ds.length : Nat)) := fun H S σ en H1 S1 Q x q =>
  h.go (en.lift x) fun v H2 k o => by
    obtain ⟨a, xs, rfl, ea, na, oa⟩ := o.tup_inv
    exact ⟨a, xs, rfl, .inr ea.sq, by rw [oa.len]; exact q _ _ k (.int _)⟩
theorem E_if {b : Bool} (ht : Et tt ρ b) (h1 : b = true → Ep ta ρ d) (h0 : b = false → Ep tb ρ d) : Ep (tIf tt ta tb) ρ d := fun H S σ en => D_if (ht H S σ en) (fun z => h1 z H S σ en) fun z => h0 z H S σ en
theorem E_test {b : Bool} (h : Ep te ρ (.bl b)) : Et (tTest te) ρ b := fun H S σ en H1 S1 Q x q => h.go (en.lift x) fun v H2 k o => by
  rw [o.bl_inv]; exact ⟨b, rfl, q H2 k⟩
theorem E_val {b : Bool} (h : Ep te ρ (.bl b)) : Et (tB te) ρ b := fun H S σ en => T_val (h H S σ en)
theorem E_not {b : Bool} (h : Et tt ρ b) : Et (tNot tt) ρ (!b) := fun H S σ en => T_not (h H S σ en)
theorem E_tand {b c : Bool} (h : Et tt ρ b) (h2 : b = true → Et tu ρ c) : Et (tAnd tt tu) ρ (b && c) := fun H S σ en H1 S1 Q x q => h.go (en.lift x) fun H2 k => by
  cases b with
  | false => exact iteF (q _ k)
  | true => exact iteT ((h2 rfl).go ((en.lift x).same k) fun H3 k3 => q _ (k.trans k3))
theorem E_tor {b c : Bool} (h : Et tt ρ b) (h2 : b = false → Et tu ρ c) : Et (tOr tt tu) ρ (b || c) := fun H S σ en H1 S1 Q x q => h.go (en.lift x) fun H2 k => by
  cases b with
  | true => exact iteT (q _ k)
  | false => exact iteF ((h2 rfl).go ((en.lift x).same k) fun H3 k3 => q _ (k.trans k3))
theorem E_and {b c : Bool} (h : Ep ta ρ (.bl b)) (h2 : b = true → Ep tb ρ (.bl c)) : Ep (tAndV ta tb) ρ (.bl (b && c)) := fun H S σ en H1 S1 Q x q => h.go (en.lift x) fun v H2 k o => by
  rw [o.bl_inv]
  refine ⟨b, rfl, ?_⟩
  cases b with
  | false => exact iteF (q _ _ k (.bl _))
  | true => exact iteT ((h2 rfl).go ((en.lift x).same k) fun u H3 k3 o3 => by rw [o3.bl_inv]; exact q _ _ (k.trans k3) (.bl _))
theorem E_or {b c : Bool} (h : Ep ta ρ (.bl b)) (h2 : b = false → Ep tb ρ (.bl c)) : Ep (tOrV ta tb) ρ (.bl (b || c)) := fun H S σ en H1 S1 Q x q => h.go (en.lift x) fun v H2 k o => by
  rw [o.bl_inv]
  refine ⟨b, rfl, ?_⟩
  cases b with
  | true => exact iteT (q _ _ k (.bl _))
  | false => exact iteF ((h2 rfl).go ((en.lift x).same k) fun u H3 k3 o3 => by rw [o3.bl_inv]; exact q _ _ (k.trans k3) (.bl _))
/-- o.f -/
theorem E_fld {C : Addr} {ns : List Str} {f : Str} (h : Ep te ρ (.ins C ns ds)) (c : Cls K C) (n : NoAttr K C f) (l : (ns.zip ds).lookup f = some d) : Ep (tFld K te f) ρ d := fun H S σ en H1 S1 Q x q => h.go (en.lift x) fun v H2 k o => by
  obtain ⟨a, dx, fs, rfl, ha, na, hn, oa⟩ := o.ins_inv
  have key : ∀ (fs : List (Str × V)) (ns : List Str) (ds : List Dt), fs.map Prod.fst = ns → Ocs H2 S1 (fs.map Prod.snd) ds → (ns.zip ds).lookup f = some d → ∃ v, fs.lookup f = some v ∧ Oc H2 S1 v d := by
    intro fs
    induction fs with
    | nil => intro ns ds h1 h2 h3; cases h1; cases h2; cases h3
    | cons q r ih =>
      intro ns ds h1 h2 h3
      subst h1
      cases h2 with
      | @cons _ d' _ ds' o t =>
        obtain ⟨g, u⟩ := q
        rw [List.map_cons, List.zip_cons_cons, List.lookup_cons] at h3
        rw [List.lookup_cons]
        cases c : f == g with
        | true => rw [c] at h3; cases h3; exact ⟨u, rfl, o⟩
        | false => rw [c] at h3; exact ih _ _ rfl t h3
  obtain ⟨u, hl, ou⟩ := key fs ns ds hn oa l
  exact ⟨_, C, dx, fs, u, rfl, ha, c, n, hl, q _ _ k ou⟩
/-! ### calls -/
/-- a def that makes a datum of data -/
def spF (pre : List Dt → Prop) (F : List Dt → Dt) : Sp := fun vs H Q _ => ∃ (S : AS) (ds : List Dt), Ocs H S vs ds ∧ Lv H S ∧ pre ds ∧ ∀ v H', Same H H' → Oc H' S v (F ds) → Q v H'
theorem E_call {pre : List Dt → Prop} {F : List Dt → Dt} {E : XK} {t : TA} (h : Ea t ρ ds) (hp : pre ds) : Ep (tCall (spF pre F) [] E t) ρ (F ds) := fun H S σ en => D_fn (h H S σ en) fun H1 S1 vs Q x o q => ⟨S1, ds, o, x.live, hp, fun v H' k o => q v H' k o⟩
end
end Lc
namespace Lc
open PySem PySem.Spec PyProof.Rows L2 RZ PySem.W
/-! ### statements -/
structure Eo where
  nx : Rho → Prop
  rt : Dt → Prop
  bk : Rho → Prop := fun _ => False
  ct : Rho → Prop := fun _ => False
/-- since the entry: what stood stands, own lists are younger -/
structure Rl (H0 : Hp) (S0 : AS) (H : Hp) (S : AS) (σ : L2.St) (ρ : Rho) : Prop where
  same : Same H0 H
  sub : ∀ a, S0 a → S a
  lv0 : Lv H0 S0
  fresh : ∀ {i : Nat} {ds : List Dt} {a : Addr}, ρ[i]? = some (.o ds) → σ[i]? = some (some (.ref a)) → H0 a = none
/-- own lists are some that were -/
structure Ow (σ : L2.St) (ρ : Rho) (σ' : L2.St) (ρ' : Rho) : Prop where
  go : ∀ (i : Nat) (ds : List Dt) (a : Addr), ρ'[i]? = some (.o ds) → σ'[i]? = some (some (.ref a)) → ∃ (j : Nat) (es : List Dt), ρ[j]? = some (.o es) ∧ σ[j]? = some (some (.ref a))
theorem Ow.refl (σ : L2.St) (ρ : Rho) : Ow σ ρ σ ρ := ⟨fun _ _ _ h g => ⟨_, _, h, g⟩⟩
theorem Ow.trans {σ σ1 σ2 : L2.St} {ρ ρ1 ρ2 : Rho} (x : Ow σ ρ σ1 ρ1) (y : Ow σ1 ρ1 σ2 ρ2) : Ow σ ρ σ2 ρ2 := ⟨fun i ds a h g => let ⟨_, _, h1, g1⟩ := y.go i ds a h g; x.go _ _ _ h1 g1⟩
theorem Ow.set {σ : L2.St} {ρ : Rho} {i : Nat} {v : Option V} {d : Dt} : Ow σ ρ (σ.set i v) (ρ.set i (.d d)) := ⟨fun j ds a h g => by
  rcases sl_set h with ⟨rfl, z⟩ | ⟨ne, h⟩
  · cases z
  · rw [List.getElem?_set_ne ne] at g
    exact ⟨_, _, h, g⟩⟩
section
variable {H0 : Hp} {S0 : AS} {H H' : Hp} {S S' : AS} {σ σ' : L2.St} {ρ ρ' : Rho} {K : PySem.W.Frag}
theorem Rl.step (r : Rl H0 S0 H S σ ρ) (k : Same H H') (w : Ow σ ρ σ' ρ') : Rl H0 S0 H' S σ' ρ' := ⟨r.same.trans k, r.sub, r.lv0, fun h g => let ⟨_, _, h1, g1⟩ := w.go _ _ _ h g; r.fresh h1 g1⟩
theorem Rl.refl (l : Lv H S) (n : ∀ (i : Nat) (ds : List Dt), ρ[i]? ≠ some (.o ds)) : Rl H S H S σ ρ := ⟨fun _ _ z => z, fun _ z => z, l, fun h _ => absurd h (n _ _)⟩
theorem Rl.back {v : V} {d : Dt} (r : Rl H0 S0 H S σ ρ) (o : Oc H S v d) : Oc H S0 v d := o.sub r.sub
def Sv (H0 : Hp) (S0 : AS) (ts : TS) (ρ : Rho) (O : Eo) : Prop := ∀ (H : Hp) (S : AS) (σ : L2.St) (D : Ends), En H S σ ρ → Rl H0 S0 H S σ ρ →
  (∀ ρ' H' S' σ', O.nx ρ' → En H' S' σ' ρ' → Rl H0 S0 H' S' σ' ρ' → Mv H S H' S' → D.nx σ' H') →
  (∀ d v H', O.rt d → Same H0 H' → Oc H' S0 v d → D.rt v H') →
  (∀ ρ' H' S' σ', O.bk ρ' → En H' S' σ' ρ' → Rl H0 S0 H' S' σ' ρ' → Mv H S H' S' → D.bk σ' H') →
  (∀ ρ' H' S' σ', O.ct ρ' → En H' S' σ' ρ' → Rl H0 S0 H' S' σ' ρ' → Mv H S H' S' → D.ct σ' H') → ts D σ H
variable {O : Eo} {ts tu : TS} {te tl : TE} {tt : TT} {d : Dt} {ds es : List Dt}
theorem Sv_seq (N : Rho → Prop) (h1 : Sv H0 S0 ts ρ { O with nx := N }) (h2 : ∀ ρ', N ρ' → Sv H0 S0 tu ρ' O) : Sv H0 S0 (tSeq ts tu) ρ O := fun H S σ D en rl kn kr kb kc =>
  h1 H S σ { D with nx := tu D } en rl (fun ρ' H' S' σ' n e r m => h2 ρ' n H' S' σ' D e r (fun ρ2 H2 S2 σ2 n2 e2 r2 m2 => kn ρ2 H2 S2 σ2 n2 e2 r2 (m.trans m2)) kr (fun ρ2 H2 S2 σ2 n2 e2 r2 m2 => kb ρ2 H2 S2 σ2 n2 e2 r2 (m.trans m2)) (fun ρ2 H2 S2 σ2 n2 e2 r2 m2 => kc ρ2 H2 S2 σ2 n2 e2 r2 (m.trans m2))) kr kb kc
/-- what follows is the one state -/
theorem Sv_then {ρ1 : Rho} (h1 : Sv H0 S0 ts ρ { O with nx := fun r => r = ρ1 }) (h2 : Sv H0 S0 tu ρ1 O) : Sv H0 S0 (tSeq ts tu) ρ O := Sv_seq (fun r => r = ρ1) h1 fun r e => e ▸ h2
theorem Sv_skip (h : O.nx ρ) : Sv H0 S0 tNext ρ O := fun H S σ D en rl kn kr kb kc => kn ρ H S σ h en rl (Mv.refl en.lv)
theorem Sv_set {i : Nat} (h : Ep te ρ d) (n : O.nx (ρ.set i (.d d))) : Sv H0 S0 (tAsg te (gName i)) ρ O := fun H S σ D en rl kn kr kb kc =>
  h.go en fun v H2 k o => kn _ _ _ _ n ((en.same k).set o) (rl.step k (Ow.set)) (Mv.same en.lv k)
theorem Sv_new {i : Nat} (h : Ef te ρ ds) (n : O.nx (ρ.set i (.o ds))) : Sv H0 S0 (tAsg te (gName i)) ρ O := fun H S σ D en rl kn kr kb kc =>
  h H S σ _ en fun a vs H2 k na ha oc => kn _ _ _ _ n (en.setO k na ha oc) ⟨rl.same.trans k, fun b z => .inl (rl.sub b z), rl.lv0, fun {j ds' b} h g => by
    rcases sl_set h with ⟨rfl, z⟩ | ⟨ne, h⟩
    · have hl : i < σ.length := by
        have := (List.getElem?_eq_some_iff.mp g).1; rwa [List.length_set] at this
      rw [List.getElem?_set_self hl] at g
      cases g
      exact none_back rl.same na
    · rw [List.getElem?_set_ne ne] at g
      exact rl.fresh h g⟩ ⟨fun o => (o.add na).same k, fun b hb => by
        rcases hb with hb | rfl
        · exact Lv.same k en.lv b hb
        · rw [ha]; exact fun z => nomatch z⟩
theorem Sv_setT {i : Nat} {ρ1 : Rho} (h : Ep te ρ d) (e : ρ.set i (.d d) = ρ1) (h2 : Sv H0 S0 tu ρ1 O) : Sv H0 S0 (tSeq (tAsg te (gName i)) tu) ρ O := Sv_then (Sv_set h e) h2
theorem Sv_newT {i : Nat} {ρ1 : Rho} (h : Ef te ρ ds) (e : ρ.set i (.o ds) = ρ1) (h2 : Sv H0 S0 tu ρ1 O) : Sv H0 S0 (tSeq (tAsg te (gName i)) tu) ρ O := Sv_then (Sv_new h e) h2
theorem Sv_drop (h : Ep te ρ d) (n : O.nx ρ) : Sv H0 S0 (tDrop te) ρ O := fun H S σ D en rl kn kr kb kc =>
  h.go en fun v H2 k o => kn _ _ _ _ n (en.same k) (rl.step k (Ow.refl _ _)) (Mv.same en.lv k)
theorem Sv_if {b : Bool} (h : Et tt ρ b) (h1 : b = true → Sv H0 S0 ts ρ O) (h0 : b = false → Sv H0 S0 tu ρ O) : Sv H0 S0 (tIfS tt ts tu) ρ O := fun H S σ D en rl kn kr kb kc =>
  h.go en fun H2 k => by
    have en2 := en.same k
    have rl2 := rl.step k (Ow.refl σ ρ)
    have m0 := Mv.same en.lv k
    cases b with
    | true => exact iteT (h1 rfl H2 S σ D en2 rl2 (fun ρ' H' S' σ' n e r m => kn ρ' H' S' σ' n e r (m0.trans m)) kr (fun ρ' H' S' σ' n e r m => kb ρ' H' S' σ' n e r (m0.trans m)) (fun ρ' H' S' σ' n e r m => kc ρ' H' S' σ' n e r (m0.trans m)))
    | false => exact iteF (h0 rfl H2 S σ D en2 rl2 (fun ρ' H' S' σ' n e r m => kn ρ' H' S' σ' n e r (m0.trans m)) kr (fun ρ' H' S' σ' n e r m => kb ρ' H' S' σ' n e r (m0.trans m)) (fun ρ' H' S' σ' n e r m => kc ρ' H' S' σ' n e r (m0.trans m)))
theorem Sv_ret (h : Ep te ρ d) (n : O.rt d) : Sv H0 S0 (tRet te) ρ O := fun H S σ D en rl kn kr kb kc =>
  h.go en fun v H2 k o => kr d v H2 n (rl.same.trans k) (o.sub rl.sub)
theorem Sv_bk (n : O.bk ρ) : Sv H0 S0 (fun D σ H => D.bk σ H) ρ O := fun H S σ D en rl kn kr kb kc => kb ρ H S σ n en rl (Mv.refl en.lv)
theorem Sv_ct (n : O.ct ρ) : Sv H0 S0 (fun D σ H => D.ct σ H) ρ O := fun H S σ D en rl kn kr kb kc => kc ρ H S σ n en rl (Mv.refl en.lv)
/-- an own list is a datum from here on -/
theorem Sv_frz {i : Nat} {ρ1 : Rho} (hi : ρ[i]? = some (.o ds)) (e : ρ.set i (.d (.lst ds)) = ρ1) (h : Sv H0 S0 ts ρ1 O) : Sv H0 S0 ts ρ O := fun H S σ D en rl kn kr kb kc => by
  obtain ⟨a, vs, ha, sa, hv, oc⟩ := en.own hi
  have na := rl.fresh hi ha
  subst e
  have back : ∀ {u : V} {e : Dt}, Oc H S u e → Oc H (fun b => S b ∧ b ≠ a) u e := fun o => o.sub fun _ z => z.1
  refine h H _ σ D (en.frz hi ha) ⟨rl.same, fun b hb => ⟨rl.sub b hb, fun z => rl.lv0 b hb (z ▸ na)⟩, rl.lv0, fun {j ds' b} h g => ?_⟩ (fun ρ' H' S' σ' n e r m => kn ρ' H' S' σ' n e r ⟨fun o => m.ob (back o), m.lv⟩) kr (fun ρ' H' S' σ' n e r m => kb ρ' H' S' σ' n e r ⟨fun o => m.ob (back o), m.lv⟩) (fun ρ' H' S' σ' n e r m => kc ρ' H' S' σ' n e r ⟨fun o => m.ob (back o), m.lv⟩)
  rcases sl_set h with ⟨rfl, z⟩ | ⟨ne, h⟩
  · cases z
  · exact rl.fresh h g
/-- xs.append(e) -/
theorem Sv_app {i : Nat} (hi : ρ[i]? = some (.o ds)) (h : Ep te ρ d) (hz : ds.length < 1000000) (n : O.nx (ρ.set i (.o (ds ++ [d])))) : Sv H0 S0 (tDrop (tBM K "list" rAppend (tVar i) (tCons te tNil))) ρ O := fun H S σ D en rl kn kr kb kc => by
  obtain ⟨a, vs, ha, sa, hv, oc⟩ := en.own hi
  refine ⟨_, ha, .inl ⟨rfl, _, SqL.of hv⟩, h.go en fun v H2 k o => ⟨a, vs, v, rfl, rfl, k _ _ hv, Nat.lt_of_lt_of_le (show _ < 1000000 by rw [oc.len]; exact hz) (by decide), ?_⟩⟩
  have e2 := (en.same k).put hi ha ((oc.same k).snoc o)
  refine kn _ _ _ _ n e2 ⟨fun b u hb => ?_, rl.sub, rl.lv0, fun {j ds' b} h g => ?_⟩ ⟨fun o => (o.same k).put sa, e2.lv⟩
  · rw [upd_ne (fun z => by rw [z, rl.fresh hi ha] at hb; cases hb)]
    exact k _ _ (rl.same _ _ hb)
  · rcases sl_set h with ⟨rfl, z⟩ | ⟨ne, h⟩
    · exact rl.fresh hi g
    · exact rl.fresh h g
/-- xs.extend(a list) -/
theorem Sv_ext {i : Nat} (hi : ρ[i]? = some (.o ds)) (h : Ep te ρ (.lst es)) (hz : ds.length + es.length ≤ 1000000) (n : O.nx (ρ.set i (.o (ds ++ es)))) : Sv H0 S0 (tDrop (tBM K "list" rExtend (tVar i) (tCons te tNil))) ρ O := fun H S σ D en rl kn kr kb kc => by
  obtain ⟨a, vs, ha, sa, hv, oc⟩ := en.own hi
  refine ⟨_, ha, .inl ⟨rfl, _, SqL.of hv⟩, h.go en fun v H2 k o => ?_⟩
  obtain ⟨b, ws, rfl, hb, nb, ob⟩ := o.lst_inv
  refine ⟨a, b, vs, ws, rfl, rfl, k _ _ hv, hb, Nat.le_trans (show _ ≤ 1000000 by rw [oc.len, ob.len]; exact hz) (by decide), ?_⟩
  have e2 := (en.same k).put hi ha ((oc.same k).append ob)
  refine kn _ _ _ _ n e2 ⟨fun b u hb => ?_, rl.sub, rl.lv0, fun {j ds' b} h g => ?_⟩ ⟨fun o => (o.same k).put sa, e2.lv⟩
  · rw [upd_ne (fun z => by rw [z, rl.fresh hi ha] at hb; cases hb)]
    exact k _ _ (rl.same _ _ hb)
  · rcases sl_set h with ⟨rfl, z⟩ | ⟨ne, h⟩
    · exact rl.fresh hi g
    · exact rl.fresh h g
/-- the body of a def that makes a datum -/
theorem fn_go {D : Ends} (en : En H S σ ρ) (n : ∀ (i : Nat) (ds : List Dt), ρ[i]? ≠ some (.o ds)) (h : Sv H S ts ρ ⟨fun _ => False, fun e => e = d, fun _ => False, fun _ => False⟩) (q : ∀ v H', Same H H' → Oc H' S v d → D.rt v H') : ts D σ H :=
  h H S σ D en (Rl.refl en.lv n) (fun _ _ _ _ z => z.elim) (fun e v H' z k o => q v H' k (z ▸ o)) (fun _ _ _ _ z => z.elim) (fun _ _ _ _ z => z.elim)
/-! ### targets -/
def Eg (g : TG) (d : Dt) (ρ ρ' : Rho) (vs : List Nat) : Prop := ∀ (H : Hp) (S : AS) (σ : L2.St) (v : V) (Q : L2.St → Hp → Prop), En H S σ ρ → Oc H S v d → (∀ σ', En H S σ' ρ' → Ow σ ρ σ' ρ' → L2.wipe σ' vs = L2.wipe σ vs → Q σ' H) → g v σ H Q
theorem G_name {i : Nat} {vs : List Nat} (hm : i ∈ vs) : Eg (gName i) d ρ (ρ.set i (.d d)) vs := fun H S σ v Q en o q => q _ (en.set o) (Ow.set) (wipe_set hm)
def Egs (g : TGs) (ds : List Dt) (ρ ρ' : Rho) (vs : List Nat) : Prop := ∀ (H : Hp) (S : AS) (σ : L2.St) (us : List V) (Q : L2.St → Hp → Prop), En H S σ ρ → Ocs H S us ds → (∀ σ', En H S σ' ρ' → Ow σ ρ σ' ρ' → L2.wipe σ' vs = L2.wipe σ vs → Q σ' H) → g us σ H Q
theorem G_nil {vs : List Nat} : Egs gNil [] ρ ρ vs := fun H S σ us Q en o q => by
  cases o
  exact ⟨rfl, q _ en (Ow.refl _ _) rfl⟩
theorem G_cons {g : TG} {gs : TGs} {ρ1 ρ2 : Rho} {vs : List Nat} (h : Eg g d ρ ρ1 vs) (ht : Egs gs ds ρ1 ρ2 vs) : Egs (gCons g gs) (d :: ds) ρ ρ2 vs := fun H S σ us Q en o q => by
  cases o with
  | cons o t => exact ⟨_, _, rfl, h H S σ _ _ en o fun σ' en' w e => ht H S σ' _ Q en' t fun σ2 en2 w2 e2 => q σ2 en2 (w.trans w2) (e2.trans e)⟩
theorem G_tup {n : Nat} {gs : TGs} {vs : List Nat} {z : Bool} (h : Egs gs ds ρ ρ' vs) (hn : ds.length = n := by rfl) : Eg (gTup K n gs) (.tup z ds) ρ ρ' vs := fun H S σ v Q en o q => by
  obtain ⟨a, xs, rfl, ea, na, oa⟩ := o.tup_inv
  exact ⟨a, xs, rfl, ea.sq, by rw [oa.len]; exact hn, h H S σ xs Q en oa q⟩
/-- a, b, .. = e -/
theorem Sv_asg {g : TG} {vs : List Nat} {ρ1 : Rho} (h : Ep te ρ d) (hg : Eg g d ρ ρ1 vs) (n : O.nx ρ1) : Sv H0 S0 (tAsg te g) ρ O := fun H S σ D en rl kn kr kb kc =>
  h.go en fun v H2 k o => hg H2 S σ v _ (en.same k) o fun σ' en' w _ => kn _ _ _ _ n en' (rl.step k w) (Mv.same en.lv k)
theorem Sv_asgT {g : TG} {vs : List Nat} {ρ1 : Rho} (h : Ep te ρ d) (hg : Eg g d ρ ρ1 vs) (h2 : Sv H0 S0 tu ρ1 O) : Sv H0 S0 (tSeq (tAsg te g) tu) ρ O := Sv_then (Sv_asg h hg rfl) h2
/-! ### what is walked -/
structure Yl (H2 : Hp) (S : AS) (J : It) (g : TG) (n : Nat) (f : Nat → Rho → Rho) (vs : List Nat) : Prop where
  go : ∀ i H' S', Mv H2 S H' S' → i < n → J.go i H'
  stop : ∀ i H' S', Mv H2 S H' S' → n ≤ i → J.stop i H'
  yld : ∀ i H' S' x H'', Mv H2 S H' S' → i < n → J.yld i H' x H'' → Same H' H'' ∧ ∀ (σ : L2.St) (ρ : Rho) (Q : L2.St → Hp → Prop), En H' S' σ ρ → (∀ σ', En H'' S' σ' (f i ρ) → Ow σ ρ σ' (f i ρ) → L2.wipe σ' vs = L2.wipe σ vs → Q σ' H'') → g x σ H'' Q
def Es (wi : TI) (g : TG) (ρ : Rho) (n : Nat) (f : Nat → Rho → Rho) (vs : List Nat) : Prop := ∀ (H : Hp) (S : AS) (σ : L2.St) (R : It → Hp → Prop), En H S σ ρ → (∀ J H2, Same H H2 → Yl H2 S J g n f vs → R J H2) → wi σ H R
theorem Es_list {g : TG} {f : Nat → Rho → Rho} {vs : List Nat} (h : Ep te ρ (.lst ds)) (hg : ∀ i d, ds[i]? = some d → ∀ ρ, Eg g d ρ (f i ρ) vs) : Es (iList K te) g ρ ds.length f vs := fun H S σ R en q =>
  h.go en fun v H2 k o => by
    obtain ⟨a, xs, rfl, ea, na, oa⟩ := o.lst_inv
    refine ⟨a, rfl, ⟨_, SqL.of ea⟩, q _ _ k ⟨fun i H' S' m hi => ?_, fun i H' S' m hi => ?_, fun i H' S' x H'' m hi y => ?_⟩⟩
    · obtain ⟨b, ys, eb, hb, nb, ob⟩ := (m.ob o).lst_inv
      cases eb
      exact ⟨ys, _, SqL.of hb, List.getElem?_eq_getElem (by rw [ob.len]; exact hi)⟩
    · obtain ⟨b, ys, eb, hb, nb, ob⟩ := (m.ob o).lst_inv
      cases eb
      exact ⟨ys, SqL.of hb, by rw [ob.len]; exact hi⟩
    · obtain ⟨b, ys, eb, hb, nb, ob⟩ := (m.ob o).lst_inv
      cases eb
      obtain ⟨e1, fx⟩ := y
      subst e1
      have hx := fx _ (SqL.of hb)
      obtain ⟨d', hd, od⟩ := ob.get hx
      exact ⟨fun _ _ z => z, fun σ' ρ' Q' en' q' => hg i d' hd ρ' _ _ σ' x Q' en' od q'⟩
theorem Es_tup {g : TG} {f : Nat → Rho → Rho} {vs : List Nat} {z : Bool} (h : Ep te ρ (.tup z ds)) (hg : ∀ i d, ds[i]? = some d → ∀ ρ, Eg g d ρ (f i ρ) vs) : Es (iTup K te) g ρ ds.length f vs := fun H S σ R en q =>
  h.go en fun v H2 k o => by
    obtain ⟨a, xs, rfl, ea, na, oa⟩ := o.tup_inv
    refine ⟨a, rfl, ⟨_, ea.sq⟩, q _ _ k ⟨fun i H' S' m hi => ?_, fun i H' S' m hi => ?_, fun i H' S' x H'' m hi y => ?_⟩⟩
    · obtain ⟨b, ys, eb, hb, nb, ob⟩ := (m.ob o).tup_inv
      cases eb
      exact ⟨ys, _, hb.sq, List.getElem?_eq_getElem (by rw [ob.len]; exact hi)⟩
    · obtain ⟨b, ys, eb, hb, nb, ob⟩ := (m.ob o).tup_inv
      cases eb
      exact ⟨ys, hb.sq, by rw [ob.len]; exact hi⟩
    · obtain ⟨b, ys, eb, hb, nb, ob⟩ := (m.ob o).tup_inv
      cases eb
      obtain ⟨e1, fx⟩ := y
      subst e1
      have hx := fx _ (hb.sq)
      obtain ⟨d', hd, od⟩ := ob.get hx
      exact ⟨fun _ _ z => z, fun σ' ρ' Q' en' q' => hg i d' hd ρ' _ _ σ' x Q' en' od q'⟩
theorem Es_rng {n : Nat} {g : TG} {f : Nat → Rho → Rho} {vs : List Nat} (h : Ep te ρ (.int (n : Nat))) (hz : n ≤ 1000000) (hg : ∀ i, i < n → ∀ ρ, Eg g (.int (i : Nat)) ρ (f i ρ) vs) : Es (iRng1 (tCons te tNil)) g ρ n f vs := fun H S σ R en q =>
  h.go en fun v H2 k o => by
    have e := o.int_inv
    subst e
    refine ⟨_, rfl, by omega, by omega, q _ _ k ?_⟩
    rw [Int.toNat_natCast]
    refine ⟨fun i H' S' m hi => hi, fun i H' S' m hi => hi, fun i H' S' x H'' m hi y => ?_⟩
    obtain ⟨e1, e2⟩ := y
    subst e1 e2
    rw [Int.zero_add]
    exact ⟨fun _ _ z => z, fun σ' ρ' Q' en' q' => hg i hi ρ' _ _ σ' _ Q' en' (.int _) q'⟩
/-- enumerate over a tuple -/
theorem Es_enumT {i1 : Nat} {g : TG} {f : Nat → Rho → Rho} {vs : List Nat} {z : Bool} (h : Ep te ρ (.tup z ds)) (hm : i1 ∈ vs) (hg : ∀ i d, ds[i]? = some d → ∀ ρ, Eg g d (ρ.set i1 (.d (.int (i : Nat)))) (f i ρ) vs) : Es (iEnumT K (tCons te tNil)) (gTup K 2 (gCons (gName i1) (gCons g gNil))) ρ ds.length f vs := fun H S σ R en q =>
  h.go en fun v H2 k o => by
    obtain ⟨a, xs, rfl, ea, na, oa⟩ := o.tup_inv
    refine ⟨a, xs, rfl, ea.sq, q _ _ k ⟨fun i H' S' m hi => ?_, fun i H' S' m hi => ?_, fun i H' S' x H'' m hi y => ?_⟩⟩
    · obtain ⟨b, ys, eb, hb, nb, ob⟩ := (m.ob o).tup_inv
      cases eb
      exact ⟨ys, _, hb.sq, List.getElem?_eq_getElem (by rw [ob.len]; exact hi)⟩
    · obtain ⟨b, ys, eb, hb, nb, ob⟩ := (m.ob o).tup_inv
      cases eb
      exact ⟨ys, hb.sq, by rw [ob.len]; exact hi⟩
    · obtain ⟨b, ys, eb, hb, nb, ob⟩ := (m.ob o).tup_inv
      cases eb
      obtain ⟨t, y, rfl, ht, rfl, fx⟩ := y
      have hx := fx _ (hb.sq)
      obtain ⟨d', hd, od⟩ := ob.get hx
      have kt := same_upd (o := .tup [.int (i : Nat), y]) ht
      refine ⟨kt, fun σ' ρ' Q' en' q' => ⟨t, _, rfl, SqT.of upd_same, rfl, _, _, rfl, ?_⟩⟩
      exact ⟨_, _, rfl, hg i d' hd ρ' _ _ _ y _ ((en'.same kt).set (.int (i : Nat))) (od.same kt) fun σ2 en2 w2 e2 => ⟨rfl, q' σ2 en2 (Ow.set.trans w2) (e2.trans (wipe_set hm))⟩⟩
/-- zip of two lists, of two tuples -/
theorem Es_zipL {ta tb : TE} {g1 g2 : TG} {f : Nat → Rho → Rho} {vs : List Nat} (ha : Ep ta ρ (.lst ds)) (hb : Ep tb ρ (.lst es)) (hg : ∀ (i : Nat) (d e : Dt), ds[i]? = some d → es[i]? = some e → ∀ ρ, ∃ ρ1, Eg g1 d ρ ρ1 vs ∧ Eg g2 e ρ1 (f i ρ) vs) : Es (iZipA K (tCons ta (tCons tb tNil))) (gTup K 2 (gCons g1 (gCons g2 gNil))) ρ (min ds.length es.length) f vs := fun H S σ R en q =>
  ha.go en fun va H2 k o => hb.go (en.same k) fun vb H3 k3 o3 => by
    have o' := o.same k3
    obtain ⟨a, xs, rfl, ea, na, oa⟩ := o'.lst_inv
    obtain ⟨b, ys, rfl, eb, nb, ob⟩ := o3.lst_inv
    refine ⟨a, b, xs, ys, rfl, .inl ⟨SqL.of ea, SqL.of eb, q _ _ (k.trans k3) ⟨fun i H' S' m hi => ?_, fun i H' S' m hi => ?_, fun i H' S' x H'' m hi y => ?_⟩⟩⟩
    · obtain ⟨b', xs', e', ha', _, oa'⟩ := (m.ob o').lst_inv
      cases e'
      obtain ⟨b', ys', e', hb', _, ob'⟩ := (m.ob o3).lst_inv
      cases e'
      exact ⟨xs', ys', _, _, SqL.of ha', SqL.of hb', List.getElem?_eq_getElem (by rw [oa'.len]; omega), List.getElem?_eq_getElem (by rw [ob'.len]; omega)⟩
    · obtain ⟨b', xs', e', ha', _, oa'⟩ := (m.ob o').lst_inv
      cases e'
      obtain ⟨b', ys', e', hb', _, ob'⟩ := (m.ob o3).lst_inv
      cases e'
      exact ⟨xs', ys', SqL.of ha', SqL.of hb', by rw [oa'.len, ob'.len]; omega⟩
    · obtain ⟨b', xs', e', ha', _, oa'⟩ := (m.ob o').lst_inv
      cases e'
      obtain ⟨b', ys', e', hb', _, ob'⟩ := (m.ob o3).lst_inv
      cases e'
      obtain ⟨t, u, w, rfl, ht, rfl, fx, fy⟩ := y
      obtain ⟨d', hd, od⟩ := oa'.get (fx _ (SqL.of ha'))
      obtain ⟨e', he, oe⟩ := ob'.get (fy _ (SqL.of hb'))
      have kt := same_upd (o := .tup [u, w]) ht
      refine ⟨kt, fun σ' ρ' Q' en' q' => ⟨t, _, rfl, SqT.of upd_same, rfl, _, _, rfl, ?_⟩⟩
      obtain ⟨ρ1, g1', g2'⟩ := hg i d' e' hd he ρ'
      exact g1' _ _ σ' u _ (en'.same kt) (od.same kt) fun σ1 en1 w1 e1 => ⟨_, _, rfl, g2' _ _ σ1 w _ en1 (oe.same kt) fun σ2 en2 w2 e2 => ⟨rfl, q' σ2 en2 (w1.trans w2) (e2.trans e1)⟩⟩
theorem Es_zipT {ta tb : TE} {z1 z2 : Bool} {g1 g2 : TG} {f : Nat → Rho → Rho} {vs : List Nat} (ha : Ep ta ρ (.tup z1 ds)) (hb : Ep tb ρ (.tup z2 es)) (hg : ∀ (i : Nat) (d e : Dt), ds[i]? = some d → es[i]? = some e → ∀ ρ, ∃ ρ1, Eg g1 d ρ ρ1 vs ∧ Eg g2 e ρ1 (f i ρ) vs) : Es (iZipA K (tCons ta (tCons tb tNil))) (gTup K 2 (gCons g1 (gCons g2 gNil))) ρ (min ds.length es.length) f vs := fun H S σ R en q =>
  ha.go en fun va H2 k o => hb.go (en.same k) fun vb H3 k3 o3 => by
    have o' := o.same k3
    obtain ⟨a, xs, rfl, ea, na, oa⟩ := o'.tup_inv
    obtain ⟨b, ys, rfl, eb, nb, ob⟩ := o3.tup_inv
    refine ⟨a, b, xs, ys, rfl, .inr ⟨ea.sq, eb.sq, q _ _ (k.trans k3) ⟨fun i H' S' m hi => ?_, fun i H' S' m hi => ?_, fun i H' S' x H'' m hi y => ?_⟩⟩⟩
    · obtain ⟨b', xs', e', ha', _, oa'⟩ := (m.ob o').tup_inv
      cases e'
      obtain ⟨b', ys', e', hb', _, ob'⟩ := (m.ob o3).tup_inv
      cases e'
      exact ⟨xs', ys', _, _, ha'.sq, hb'.sq, List.getElem?_eq_getElem (by rw [oa'.len]; omega), List.getElem?_eq_getElem (by rw [ob'.len]; omega)⟩
    · obtain ⟨b', xs', e', ha', _, oa'⟩ := (m.ob o').tup_inv
      cases e'
      obtain ⟨b', ys', e', hb', _, ob'⟩ := (m.ob o3).tup_inv
      cases e'
      exact ⟨xs', ys', ha'.sq, hb'.sq, by rw [oa'.len, ob'.len]; omega⟩
    · obtain ⟨b', xs', e', ha', _, oa'⟩ := (m.ob o').tup_inv
      cases e'
      obtain ⟨b', ys', e', hb', _, ob'⟩ := (m.ob o3).tup_inv
      cases e'
      obtain ⟨t, u, w, rfl, ht, rfl, fx, fy⟩ := y
      obtain ⟨d', hd, od⟩ := oa'.get (fx _ ha'.sq)
      obtain ⟨e', he, oe⟩ := ob'.get (fy _ hb'.sq)
      have kt := same_upd (o := .tup [u, w]) ht
      refine ⟨kt, fun σ' ρ' Q' en' q' => ⟨t, _, rfl, SqT.of upd_same, rfl, _, _, rfl, ?_⟩⟩
      obtain ⟨ρ1, g1', g2'⟩ := hg i d' e' hd he ρ'
      exact g1' _ _ σ' u _ (en'.same kt) (od.same kt) fun σ1 en1 w1 e1 => ⟨_, _, rfl, g2' _ _ σ1 w _ en1 (oe.same kt) fun σ2 en2 w2 e2 => ⟨rfl, q' σ2 en2 (w1.trans w2) (e2.trans e1)⟩⟩
/-! ### for -/
theorem Sv_for {wi : TI} {g : TG} {tb : TS} {n : Nat} {f : Nat → Rho → Rho} {vs : List Nat} (h : Es wi g ρ n f vs) (I : Nat → Rho → Prop) (h0 : I 0 ρ) (hs : ∀ i ρ', i < n → I i ρ' → Sv H0 S0 tb (f i ρ') ⟨I (i + 1), O.rt, O.nx, I (i + 1)⟩) (hd : ∀ ρ', I n ρ' → O.nx ρ') : Sv H0 S0 (tFor wi g tb) ρ O := fun H S σ D en rl kn kr kb kc =>
  h H S σ _ en fun J H2 k y => by
    have l2 := Lv.same k en.lv
    have m0 := Mv.same en.lv k
    refine ⟨fun i m σ' H' => m = n - i ∧ i ≤ n ∧ ∃ ρ' S', I i ρ' ∧ En H' S' σ' ρ' ∧ Rl H0 S0 H' S' σ' ρ' ∧ Mv H2 S H' S', ⟨_, rfl, Nat.zero_le _, ρ, S, h0, en.same k, rl.step k (Ow.refl _ _), Mv.refl l2⟩, ?_⟩
    rintro i m σ' H' ⟨rfl, hi, ρ', S', iv, en', rl', mv⟩
    by_cases lt : i < n
    · refine .inr ⟨y.go i H' S' mv lt, fun σ' H' => ∃ ρ' S', I (i + 1) ρ' ∧ En H' S' σ' ρ' ∧ Rl H0 S0 H' S' σ' ρ' ∧ Mv H2 S H' S', fun σ2 H3 z => ⟨_, by omega, rfl, lt, z⟩, fun x H'' yy => ?_⟩
      obtain ⟨kk, gg⟩ := y.yld i H' S' x H'' mv lt yy
      refine gg σ' ρ' _ en' fun σ2 en2 w2 _ => ?_
      have mv2 : Mv H2 S H'' S' := mv.trans (Mv.same en'.lv kk)
      refine hs i ρ' lt iv H'' S' σ2 _ en2 (rl'.step kk w2) (fun ρ3 H3 S3 σ3 n3 e3 r3 m3 => ⟨ρ3, S3, n3, e3, r3, mv2.trans m3⟩) kr (fun ρ3 H3 S3 σ3 n3 e3 r3 m3 => kn ρ3 H3 S3 σ3 n3 e3 r3 (m0.trans (mv2.trans m3))) (fun ρ3 H3 S3 σ3 n3 e3 r3 m3 => ⟨ρ3, S3, n3, e3, r3, mv2.trans m3⟩)
    · have e : i = n := by omega
      subst e
      exact .inl ⟨y.stop i H' S' mv (Nat.le_refl _), kn ρ' H' S' σ' (hd ρ' iv) en' rl' (m0.trans mv)⟩
/-! ### [e for ..] -/
def Ec (tt : TT) (te : TE) (ρ : Rho) (r : Option Dt) : Prop := ∃ b, Et tt ρ b ∧ (b = true → ∃ e, r = some e ∧ Ep te ρ e) ∧ (b = false → r = none)
theorem E_yes : Et tYes ρ true := fun H S σ en H1 S1 Q x q => q H1 fun _ _ z => z
theorem C_map (h : Ep te ρ d) : Ec tYes te ρ (some d) := ⟨true, E_yes, fun _ => ⟨d, rfl, h⟩, fun z => nomatch z⟩
theorem C_if {b : Bool} (ht : Et tt ρ b) (h : b = true → Ep te ρ d) : Ec tt te ρ (if b = true then some d else none) := ⟨b, ht, fun z => ⟨d, if_pos z, h z⟩, fun z => by rw [z]; rfl⟩
theorem C_eq {r r' : Option Dt} (h : Ec tt te ρ r) (e : r = r') : Ec tt te ρ r' := e ▸ h
theorem rng_succ {α : Type} (r : Nat → Option α) (i : Nat) : (List.range (i + 1)).filterMap r = (List.range i).filterMap r ++ (r i).toList := by
  rw [List.range_succ, List.filterMap_append]
  cases e : r i <;> simp [List.filterMap, e]
theorem E_lc {wi : TI} {g : TG} {n : Nat} {f : Nat → Rho → Rho} {vs : List Nat} {r : Nat → Option Dt} (h : Es wi g ρ n f vs) (hz : n ≤ 999999) (hs : ∀ i, i < n → Ec tt te (f i (wipeR ρ vs)) (r i)) : Ef (tLc wi g tt te vs) ρ ((List.range n).filterMap r) := fun H S σ Q en q =>
  h H S σ _ en fun J H2 k y => by
    intro D hD
    have l2 := Lv.same k en.lv
    have en2 := en.same k
    refine ⟨fun i m H' => m = n - i ∧ i ≤ n ∧ Made H2 S D ((List.range i).filterMap r) H', ⟨_, rfl, Nat.zero_le _, Made.nil hD⟩, ?_⟩
    rintro i m H' ⟨rfl, hi, md⟩
    have lf := md.lift l2 hD
    by_cases lt : i < n
    · refine .inr ⟨y.go i H' _ lf.mv lt, fun H' => Made H2 S D ((List.range (i + 1)).filterMap r) H', fun H3 z => ⟨_, by omega, rfl, lt, z⟩, fun x H'' yy => ?_⟩
      obtain ⟨kk, gg⟩ := y.yld i H' _ x H'' lf.mv lt yy
      refine gg _ _ _ ((en2.lift lf).wipe vs) fun σ2 e2 w2 ew => ⟨ew.trans (wipe_wipe σ vs), ?_⟩
      obtain ⟨b, hb, h1, h0⟩ := hs i lt
      refine hb.go e2 fun H3 k3 => ?_
      cases b with
      | true =>
        obtain ⟨e, er, he⟩ := h1 rfl
        refine iteT (he.go (e2.same k3) fun v H4 k4 o4 => ?_)
        have ln : ((List.range i).filterMap r).length < 1000000 := by
          have := List.length_filterMap_le r (List.range i)
          rw [List.length_range] at this
          omega
        obtain ⟨acc, e1, e3, m2⟩ := md.step hD ((kk.trans k3).trans k4) o4 ln
        refine ⟨acc, e1, e3, ?_⟩
        rw [rng_succ, er]; exact m2
      | false =>
        refine iteF ?_
        rw [rng_succ, h0 rfl]
        show Made _ _ _ (_ ++ []) _
        rw [List.append_nil]
        obtain ⟨vs', e, oc⟩ := md.acc
        exact ⟨md.same.trans (kk.trans k3), vs', k3 _ _ (kk _ _ e), oc.same (kk.trans k3)⟩
    · have e : i = n := by omega
      subst e
      obtain ⟨vs', e, oc⟩ := md.acc
      exact .inl ⟨y.stop i H' _ lf.mv (Nat.le_refl _), q D vs' H' (k.trans md.same) (none_back k hD) e oc⟩
theorem rng_fm {α β : Type} (l : List α) (r : α → Option β) (z : Nat → Option β) (h : ∀ i a, l[i]? = some a → z i = r a) : (List.range l.length).filterMap z = l.filterMap r := by
  have key : ∀ n, n ≤ l.length → (List.range n).filterMap z = (l.take n).filterMap r := by
    intro n
    induction n with
    | zero => intro _; rfl
    | succ n ih =>
      intro hn
      have e : l[n]? = some l[n] := List.getElem?_eq_getElem hn
      rw [rng_succ, ih (by omega), List.take_add_one, e, List.filterMap_append, h n _ e]
      congr 1
  rw [key _ (Nat.le_refl _), List.take_length]
/-- over a list, a tuple -/
theorem E_lcL {j : Nat} {r : Dt → Option Dt} (h : Ep tl ρ (.lst ds)) (hz : ds.length ≤ 999999) (hs : ∀ d ∈ ds, Ec tt te ((wipeR ρ [j]).set j (.d d)) (r d)) : Ef (tLc (iList K tl) (gName j) tt te [j]) ρ (ds.filterMap r) := by
  refine (E_lc (Es_list h fun i d hd ρ => (?_ : Eg _ _ _ ((fun i ρ => ρ.set j (.d (ds.getD i .non))) i ρ) _)) hz (r := fun i => r (ds.getD i .non)) fun i hi => ?_).eq (rng_fm ds r _ fun i a e => by rw [List.getD_eq_getElem?_getD, e]; rfl)
  · show Eg _ _ _ (ρ.set j (.d (ds.getD i .non))) _
    rw [List.getD_eq_getElem?_getD, hd]
    exact G_name List.mem_cons_self
  · refine hs _ ?_
    rw [List.getD_eq_getElem?_getD, List.getElem?_eq_getElem hi]
    exact List.getElem_mem _
theorem E_lcT {j : Nat} {z : Bool} {r : Dt → Option Dt} (h : Ep tl ρ (.tup z ds)) (hz : ds.length ≤ 999999) (hs : ∀ d ∈ ds, Ec tt te ((wipeR ρ [j]).set j (.d d)) (r d)) : Ef (tLc (iTup K tl) (gName j) tt te [j]) ρ (ds.filterMap r) := by
  refine (E_lc (Es_tup h fun i d hd ρ => (?_ : Eg _ _ _ ((fun i ρ => ρ.set j (.d (ds.getD i .non))) i ρ) _)) hz (r := fun i => r (ds.getD i .non)) fun i hi => ?_).eq (rng_fm ds r _ fun i a e => by rw [List.getD_eq_getElem?_getD, e]; rfl)
  · show Eg _ _ _ (ρ.set j (.d (ds.getD i .non))) _
    rw [List.getD_eq_getElem?_getD, hd]
    exact G_name List.mem_cons_self
  · refine hs _ ?_
    rw [List.getD_eq_getElem?_getD, List.getElem?_eq_getElem hi]
    exact List.getElem_mem _
theorem E_lcR {j n : Nat} {r : Nat → Option Dt} (h : Ep tl ρ (.int (n : Nat))) (hz : n ≤ 999999) (hs : ∀ i, i < n → Ec tt te ((wipeR ρ [j]).set j (.d (.int (i : Nat)))) (r i)) : Ef (tLc (iRng1 (tCons tl tNil)) (gName j) tt te [j]) ρ ((List.range n).filterMap r) :=
  E_lc (Es_rng h (by omega) (f := fun i ρ => ρ.set j (.d (.int (i : Nat)))) fun i hi ρ => G_name List.mem_cons_self) hz hs
end
end Lc
namespace Lc
open PySem PySem.Spec PyProof.Rows L2 RZ PySem.W
section
variable {ρ : Rho} {K : PySem.W.Frag} {te ta tb tl : TE} {tt tu : TT} {d e : Dt} {ds es : List Dt} {i j : Int}
theorem E_isi {nm : String} {b : Bool} (h : Ep te ρ d) (k : PySem.W.kitOne K (.type (tyName d)) (.type nm) = some b) (n : d.pl = true := by rfl) : Ep (tCB (rIsi K) (tCons te (tCons (tC (.ty nm)) tNil))) ρ (.bl b) := fun H S σ en H1 S1 Q x q =>
  h.go (en.lift x) fun v H2 k2 o => ⟨v, .ty nm, .type (tyName d), .type nm, b, rfl, .ty nm, (o.arg n).ty, k, q _ _ k2 (.bl _)⟩
theorem E_all {bs : List Bool} (h : El tl ρ (bs.map Dt.bl)) : Ep (tCB (rAll K) (tCons tl tNil)) ρ (.bl (bs.all id)) := fun H S σ en H1 S1 Q x q =>
  h H1 S1 σ _ (en.lift x) fun a vs H2 k ha oa => by
    have e := oa.bls
    subst e
    exact ⟨a, bs, rfl, SqL.of ha, q _ _ k (.bl _)⟩
theorem E_any {bs : List Bool} (h : El tl ρ (bs.map Dt.bl)) : Ep (tCB (rAny K) (tCons tl tNil)) ρ (.bl (bs.any id)) := fun H S σ en H1 S1 Q x q =>
  h H1 S1 σ _ (en.lift x) fun a vs H2 k ha oa => by
    have e := oa.bls
    subst e
    exact ⟨a, bs, rfl, SqL.of ha, q _ _ k (.bl _)⟩
theorem E_word {c : Addr} {ws : List Str} {E : XK} (h : Ep te ρ d) (hc : ∀ H, SqT K H c (ws.map V.str)) (n : d.pl = true := by rfl) : Ep (tCall (spWord K) [] E (tCons te (tCons (tC (.ref c)) tNil))) ρ (.bl (wordD d ws)) := fun H S σ en H1 S1 Q x q =>
  h.go (en.lift x) fun v H2 k2 o => by
    have e : wordV v ws = wordD d ws := by cases o <;> first | rfl | cases n
    refine ⟨v, c, ws, tyName d, rfl, hc H2, o.arg n, ?_⟩
    rw [e]; exact q _ _ k2 (.bl _)
theorem E_whole {lo hi : Int} {E : XK} (h : Ep te ρ d) (ha : Ep ta ρ (.int lo)) (hb : Ep tb ρ (.int hi)) (n : d.pl = true := by rfl) : Ep (tCall (spWhole K) [] E (tCons te (tCons ta (tCons tb tNil)))) ρ (.bl (wholeD d lo hi)) := fun H S σ en H1 S1 Q x q =>
  h.go (en.lift x) fun v H2 k2 o => ha.go ((en.lift x).same k2) fun u H3 k3 o3 => hb.go ((en.lift x).same (k2.trans k3)) fun w H4 k4 o4 => by
    rw [o3.int_inv, o4.int_inv]
    have o' := (o.same k3).same k4
    have e : wholeV v lo hi = wholeD d lo hi := by cases o' <;> first | rfl | cases n
    refine ⟨v, lo, hi, tyName d, rfl, o'.arg n, ?_⟩
    rw [e]; exact q _ _ ((k2.trans k3).trans k4) (.bl _)
/-- flat data as a value -/
def vOf : Dt → Option V
  | .non => some .non
  | .bl b => some (.bl b)
  | .int i => some (.int i)
  | .str s => some (.str s)
  | _ => none
theorem Oc.flat {H : Hp} {S : AS} {v u : V} (o : Oc H S v d) (h : vOf d = some u) : v = u := by
  cases o <;> first | exact Option.some.inj h | cases h
theorem E_eqV {u v : V} (ha : Ep ta ρ d) (hb : Ep tb ρ e) (hu : vOf d = some u := by rfl) (hv : vOf e = some v := by rfl) (sc : scal u v = true := by rfl) : Ep (tOp rEq ta tb) ρ (.bl (decide (u = v))) := fun H S σ en H1 S1 Q x q =>
  ha.go (en.lift x) fun _ H2 k o => hb.go ((en.lift x).same k) fun _ H3 k3 o3 => by
    rw [(o.same k3).flat hu, o3.flat hv]
    exact ⟨sc, q _ _ (k.trans k3) (.bl _)⟩
theorem E_neV {u v : V} (ha : Ep ta ρ d) (hb : Ep tb ρ e) (hu : vOf d = some u := by rfl) (hv : vOf e = some v := by rfl) (sc : scal u v = true := by rfl) : Ep (tOp rNe ta tb) ρ (.bl (!decide (u = v))) := fun H S σ en H1 S1 Q x q =>
  ha.go (en.lift x) fun _ H2 k o => hb.go ((en.lift x).same k) fun _ H3 k3 o3 => by
    rw [(o.same k3).flat hu, o3.flat hv]
    exact ⟨sc, q _ _ (k.trans k3) (.bl _)⟩
theorem dec_str (a b : Str) : decide (V.str a = V.str b) = decide (a = b) := by
  by_cases c : a = b
  · subst c; simp
  · rw [decide_eq_false c, decide_eq_false (fun z => c (V.str.inj z))]
theorem dec_int' (a b : Int) : decide (V.int a = V.int b) = decide (a = b) := by
  by_cases c : a = b
  · subst c; simp
  · rw [decide_eq_false c, decide_eq_false (fun z => c (V.int.inj z))]
theorem dec_bl (a b : Bool) : decide (V.bl a = V.bl b) = decide (a = b) := by
  by_cases c : a = b
  · subst c; simp
  · rw [decide_eq_false c, decide_eq_false (fun z => c (V.bl.inj z))]
theorem E_eqS {a b : Str} (ha : Ep ta ρ (.str a)) (hb : Ep tb ρ (.str b)) : Ep (tOp rEq ta tb) ρ (.bl (decide (a = b))) := E_eq (E_eqV ha hb) (by rw [dec_str])
theorem E_neS {a b : Str} (ha : Ep ta ρ (.str a)) (hb : Ep tb ρ (.str b)) : Ep (tOp rNe ta tb) ρ (.bl (!decide (a = b))) := E_eq (E_neV ha hb) (by rw [dec_str])
theorem E_eqI (ha : Ep ta ρ (.int i)) (hb : Ep tb ρ (.int j)) : Ep (tOp rEq ta tb) ρ (.bl (decide (i = j))) := E_eq (E_eqV ha hb) (by rw [dec_int'])
theorem E_neI (ha : Ep ta ρ (.int i)) (hb : Ep tb ρ (.int j)) : Ep (tOp rNe ta tb) ρ (.bl (!decide (i = j))) := E_eq (E_neV ha hb) (by rw [dec_int'])
theorem E_eqB {a b : Bool} (ha : Ep ta ρ (.bl a)) (hb : Ep tb ρ (.bl b)) : Ep (tOp rEq ta tb) ρ (.bl (decide (a = b))) := E_eq (E_eqV ha hb) (by rw [dec_bl])
theorem E_neB {a b : Bool} (ha : Ep ta ρ (.bl a)) (hb : Ep tb ρ (.bl b)) : Ep (tOp rNe ta tb) ρ (.bl (!decide (a = b))) := E_eq (E_neV ha hb) (by rw [dec_bl])
/-- s in a tuple, a list of texts -/
theorem E_inS {neg : Bool} {a : Str} {z : Bool} {ws : List Str} (ha : Ep ta ρ (.str a)) (hb : Ep tb ρ (.tup z (ws.map Dt.str))) : Ep (tOp (rIn K neg) ta tb) ρ (.bl (if neg = true then !decide (a ∈ ws) else decide (a ∈ ws))) := fun H S σ en H1 S1 Q x q =>
  ha.go (en.lift x) fun _ H2 k o => hb.go ((en.lift x).same k) fun _ H3 k3 o3 => by
    rw [(o.same k3).str_inv]
    obtain ⟨b, xs, rfl, eb, nb, ob⟩ := o3.tup_inv
    have ex := ob.strs
    subst ex
    refine ⟨b, _, rfl, .inr eb.sq, rfl, all_flat_str ws, ?_⟩
    rw [inV_str]
    exact q _ _ (k.trans k3) (.bl _)
theorem E_inSL {neg : Bool} {a : Str} {ws : List Str} (ha : Ep ta ρ (.str a)) (hb : El tb ρ (ws.map Dt.str)) : Ep (tOp (rIn K neg) ta tb) ρ (.bl (if neg = true then !decide (a ∈ ws) else decide (a ∈ ws))) := fun H S σ en H1 S1 Q x q =>
  ha.go (en.lift x) fun _ H2 k o => hb H2 S1 σ _ ((en.lift x).same k) fun b xs H3 k3 eb ob => by
    rw [(o.same k3).str_inv]
    have ex := ob.strs
    subst ex
    refine ⟨b, _, rfl, .inl (SqL.of eb), rfl, all_flat_str ws, ?_⟩
    rw [inV_str]
    exact q _ _ (k.trans k3) (.bl _)
theorem E_inIL {neg : Bool} {ns : List Int} (ha : Ep ta ρ (.int i)) (hb : El tb ρ (ns.map Dt.int)) : Ep (tOp (rIn K neg) ta tb) ρ (.bl (if neg = true then !decide (i ∈ ns) else decide (i ∈ ns))) := fun H S σ en H1 S1 Q x q =>
  ha.go (en.lift x) fun _ H2 k o => hb H2 S1 σ _ ((en.lift x).same k) fun b xs H3 k3 eb ob => by
    rw [(o.same k3).int_inv]
    have ex := ob.ints
    subst ex
    refine ⟨b, _, rfl, .inl (SqL.of eb), rfl, flat_ints ns, ?_⟩
    rw [inV_ints]
    exact q _ _ (k.trans k3) (.bl _)
/-- t[i], l[i], i not below nought -/
theorem E_ixTi {z : Bool} (ha : Ep ta ρ (.tup z ds)) (hb : Ep tb ρ (.int i)) (h0 : 0 ≤ i) (hd : ds[i.toNat]? = some d) : Ep (tOp (rIxT K) ta tb) ρ d := E_ixT (n := i.toNat) ha (E_eq hb (by congr 1; omega)) hd
theorem E_ixLi (ha : El ta ρ ds) (hb : Ep tb ρ (.int i)) (h0 : 0 ≤ i) (hd : ds[i.toNat]? = some d) : Ep (tOp (rIxL K) ta tb) ρ d := E_ixL (n := i.toNat) ha (E_eq hb (by congr 1; omega)) hd
theorem E_mod (ha : Ep ta ρ (.int i)) (hb : Ep tb ρ (.int j)) (h : 0 < j) : Ep (tOp (rI (fun _ j => (0 : Int) < j) fun i j => .int (i % j)) ta tb) ρ (.int (i % j)) := fun H S σ en H1 S1 Q x q =>
  ha.go (en.lift x) fun _ H2 k o => hb.go ((en.lift x).same k) fun _ H3 k3 o3 => by
    rw [(o.same k3).int_inv, o3.int_inv]
    exact ⟨i, j, rfl, rfl, h, q _ _ (k.trans k3) (.int _)⟩
theorem E_chain {f g : Int → Int → Bool} {tc : TE} {k : Int} (ha : Ep ta ρ (.int i)) (hb : Ep tb ρ (.int j)) (hc : Ep tc ρ (.int k)) : Ep (tChain (rI0 fun i j => .bl (f i j)) (rI0 fun i j => .bl (g i j)) ta tb tc) ρ (.bl (f i j && g j k)) := fun H S σ en H1 S1 Q x q =>
  ha.go (en.lift x) fun _ H2 k2 o => hb.go ((en.lift x).same k2) fun _ H3 k3 o3 => by
    rw [(o.same k3).int_inv, o3.int_inv]
    refine ⟨i, j, rfl, rfl, f i j, rfl, ?_⟩
    cases c : f i j with
    | false => exact iteF (q _ _ (k2.trans k3) (by rw [c, Bool.false_and]; exact .bl _))
    | true => exact iteT (hc.go ((en.lift x).same (k2.trans k3)) fun _ H4 k4 o4 => by
        rw [o4.int_inv]
        exact ⟨j, k, rfl, rfl, q _ _ ((k2.trans k3).trans k4) (by rw [c, Bool.true_and]; exact .bl _)⟩)
/-- a def that makes a datum of typed things -/
def spTy {α : Type} (enc : α → List Dt) (pre : α → Prop) (F : α → Dt) : Sp := fun vs H Q _ => ∃ (S : AS) (a : α), Ocs H S vs (enc a) ∧ Lv H S ∧ pre a ∧ ∀ v H', Same H H' → Oc H' S v (F a) → Q v H'
theorem E_callT {α : Type} {enc : α → List Dt} {pre : α → Prop} {F : α → Dt} {E : XK} {t : TA} (a : α) (h : Ea t ρ (enc a)) (hp : pre a) : Ep (tCall (spTy enc pre F) [] E t) ρ (F a) := fun H S σ en => D_fn (h H S σ en) fun H1 S1 vs Q x o q => ⟨S1, a, o, x.live, hp, fun v H' k o => q v H' k o⟩
end
theorem E_intE {ρ : Rho} {i : Int} {d : Dt} (h : Dt.int i = d) : Ep (tC (.int i)) ρ d := h ▸ E_int i
theorem E_strE {ρ : Rho} {i : Str} {d : Dt} (h : Dt.str i = d) : Ep (tC (.str i)) ρ d := h ▸ E_str i
theorem E_blE {ρ : Rho} {i : Bool} {d : Dt} (h : Dt.bl i = d) : Ep (tC (.bl i)) ρ d := h ▸ E_bl i
theorem E_nonE {ρ : Rho} {d : Dt} (h : Dt.non = d) : Ep (tC .non) ρ d := h ▸ E_non
/-! ### the start of a body -/
theorem En.nil {H : Hp} {S : AS} (l : Lv H S) : En H S [] [] where
  len := rfl
  lv := l
  dat h := by simp at h
  own h := by simp at h
  val h := by simp at h
  inj h := by simp at h
theorem En.cons {H : Hp} {S : AS} {σ : L2.St} {ρ : Rho} {v : V} {d : Dt} (o : Oc H S v d) (e : En H S σ ρ) : En H S (some v :: σ) (.d d :: ρ) where
  len := congrArg Nat.succ e.len
  lv := e.lv
  dat {i d'} h := by
    cases i with
    | zero => cases h; exact ⟨v, rfl, o⟩
    | succ i => exact e.dat (i := i) h
  own {i d'} h := by
    cases i with
    | zero => cases h
    | succ i => exact e.own (i := i) h
  val {i u} h := by
    cases i with
    | zero => cases h
    | succ i => exact e.val (i := i) h
  inj {i j ds es a} h1 h2 g1 g2 := by
    cases i with
    | zero => cases h1
    | succ i =>
      cases j with
      | zero => cases h2
      | succ j => exact congrArg Nat.succ (e.inj (i := i) (j := j) h1 h2 g1 g2)
theorem En.no {H : Hp} {S : AS} {σ : L2.St} {ρ : Rho} {v : Option V} (e : En H S σ ρ) : En H S (v :: σ) (.no :: ρ) where
  len := congrArg Nat.succ e.len
  lv := e.lv
  dat {i d'} h := by
    cases i with
    | zero => cases h
    | succ i => exact e.dat (i := i) h
  own {i d'} h := by
    cases i with
    | zero => cases h
    | succ i => exact e.own (i := i) h
  val {i u} h := by
    cases i with
    | zero => cases h
    | succ i => exact e.val (i := i) h
  inj {i j ds es a} h1 h2 g1 g2 := by
    cases i with
    | zero => cases h1
    | succ i =>
      cases j with
      | zero => cases h2
      | succ j => exact congrArg Nat.succ (e.inj (i := i) (j := j) h1 h2 g1 g2)
theorem En.vl {H : Hp} {S : AS} {σ : L2.St} {ρ : Rho} {v : V} (e : En H S σ ρ) : En H S (some v :: σ) (.v v :: ρ) where
  len := congrArg Nat.succ e.len
  lv := e.lv
  dat {i d'} h := by
    cases i with
    | zero => cases h
    | succ i => exact e.dat (i := i) h
  own {i d'} h := by
    cases i with
    | zero => cases h
    | succ i => exact e.own (i := i) h
  val {i u} h := by
    cases i with
    | zero => cases h; rfl
    | succ i => exact e.val (i := i) h
  inj {i j ds es a} h1 h2 g1 g2 := by
    cases i with
    | zero => cases h1
    | succ i =>
      cases j with
      | zero => cases h2
      | succ j => exact congrArg Nat.succ (e.inj (i := i) (j := j) h1 h2 g1 g2)
theorem En.nos {H : Hp} {S : AS} (l : Lv H S) : ∀ n : Nat, En H S (List.replicate n none) (List.replicate n .no)
  | 0 => En.nil l
  | n + 1 => (En.nos l n).no
theorem En.at7 {H : Hp} {S : AS} {σ : L2.St} {v : V} {ρ : Rho} (e : En H S σ (.v v :: ρ)) : ∃ τ, σ = some v :: τ ∧ τ.length = ρ.length := by
  have h := e.val (i := 0) (u := v) rfl
  have l := e.len
  cases σ with
  | nil => simp at h
  | cons x τ =>
    have h2 : x = some v := by simpa using h
    subst h2
    exact ⟨τ, rfl, by simpa using l⟩
theorem no_own : ∀ (ds : List Dt) (n i : Nat) (es : List Dt), (ds.map Sl.d ++ List.replicate n Sl.no)[i]? ≠ some (.o es)
  | [], n, i, es => fun h => by
    rw [List.map_nil, List.nil_append, List.getElem?_replicate] at h
    split at h <;> cases h
  | d :: r, n, 0, es => fun h => by cases h
  | d :: r, n, i + 1, es => no_own r n i es
/-- the arguments, then free slots -/
theorem En.start {H : Hp} {S : AS} (l : Lv H S) : ∀ {vs : List V} {ds : List Dt}, Ocs H S vs ds → ∀ n : Nat, En H S (vs.map some ++ List.replicate n none) (ds.map Sl.d ++ List.replicate n .no)
  | _, _, .nil, n => En.nos l n
  | _, _, .cons o t, n => (En.start l t n).cons o
/-- the slots at the entry -/
def rho (N : List Str) (ds : List Dt) : Rho := ds.map Sl.d ++ List.replicate (N.length - ds.length) .no
theorem En.fn {H : Hp} {S : AS} {N : List Str} {vs : List V} {ds : List Dt} (l : Lv H S) (o : Ocs H S vs ds) : En H S (L2.start N vs) (rho N ds) := by
  unfold L2.start rho
  rw [o.len]
  exact En.start l o _
theorem fn_body {H : Hp} {S : AS} {N : List Str} {vs : List V} {ds : List Dt} {ts : TS} {d : Dt} {D : Ends} (l : Lv H S) (o : Ocs H S vs ds) (h : Sv H S ts (rho N ds) ⟨fun _ => False, fun e => e = d, fun _ => False, fun _ => False⟩) (q : ∀ v H', Same H H' → Oc H' S v d → D.rt v H') : ts D (L2.start N vs) H :=
  fn_go (En.fn l o) (no_own _ _) h q
theorem fn_bodyR {H : Hp} {S : AS} {N : List Str} {vs : List V} {ds : List Dt} {ts : TS} {D : Ends} (R : Dt → Prop) (l : Lv H S) (o : Ocs H S vs ds) (h : Sv H S ts (rho N ds) ⟨fun _ => False, R, fun _ => False, fun _ => False⟩) (q : ∀ d v H', R d → Same H H' → Oc H' S v d → D.rt v H') : ts D (L2.start N vs) H :=
  h H S _ D (En.fn l o) (Rl.refl l (no_own _ _)) (fun _ _ _ _ z => z.elim) (fun e v H' z k o => q e v H' z k o) (fun _ _ _ _ z => z.elim) (fun _ _ _ _ z => z.elim)
theorem fn_bodyN {H : Hp} {S : AS} {N : List Str} {vs : List V} {ds : List Dt} {ts : TS} {D : Ends} (l : Lv H S) (o : Ocs H S vs ds) (h : Sv H S ts (rho N ds) ⟨fun _ => True, fun e => e = .non, fun _ => False, fun _ => False⟩) (q : ∀ v H', Same H H' → Oc H' S v .non → D.rt v H') (qn : ∀ σ' H', Same H H' → D.nx σ' H') : ts D (L2.start N vs) H :=
  h H S _ D (En.fn l o) (Rl.refl l (no_own _ _)) (fun _ _ _ _ _ _ r _ => qn _ _ r.same) (fun e v H' z k o => q v H' k (z ▸ o)) (fun _ _ _ _ z => z.elim) (fun _ _ _ _ z => z.elim)
/-! ### slices of lists, items put -/
section
variable {H0 : Hp} {S0 : AS} {ρ : Rho} {K : PySem.W.Frag} {te ta tb tl th ti : TE} {d : Dt} {ds : List Dt} {O : Eo} {ts tu : TS}
theorem slL_go {H : Hp} {S : AS} {a : Addr} {xs : List V} {lo : Nat} {hi : Option Nat} {l : Option Int} {Q : VK} (hl : l = none ∧ lo = 0 ∨ l = some (lo : Int)) (ea : H a = some (.lst xs)) (oa : Ocs H S xs ds) (q : ∀ p ys H2, Same H H2 → H p = none → H2 p = some (.lst ys) → Ocs H2 (And1 S p) ys (sub3 ds lo hi) → Q (.ref p) H2) : rSlL K (.ref a) l (hi.map fun k => ((k : Nat) : Int)) H Q := by
  have n1 := oa.len
  have e1 : HT.sIx xs.length 0 l = min lo xs.length := by
    rcases hl with ⟨rfl, rfl⟩ | rfl
    · rw [HT.sIx_none]; omega
    · exact HT.sIx_nat _ _ _
  have e2 : HT.sIx xs.length xs.length (hi.map fun k => ((k : Nat) : Int)) = hiN xs.length hi := by
    cases hi with
    | none => rfl
    | some k => exact HT.sIx_nat _ _ _
  have oc : Ocs H S (cutV xs l (hi.map fun k => ((k : Nat) : Int))) (sub3 ds lo hi) := by
    have h0 := ocs_take (hiN xs.length hi - min lo xs.length) (ocs_drop (min lo xs.length) oa)
    have e3 : cutV xs l (hi.map fun k => ((k : Nat) : Int)) = (xs.drop (min lo xs.length)).take (hiN xs.length hi - min lo xs.length) := by
      unfold cutV
      rw [e1, e2]
    have e4 : (ds.drop (min lo xs.length)).take (hiN xs.length hi - min lo xs.length) = sub3 ds lo hi := by
      rw [n1]
      have d1 : ds.drop (min lo ds.length) = ds.drop lo := by
        by_cases c : lo ≤ ds.length
        · rw [Nat.min_eq_left c]
        · rw [Nat.min_eq_right (by omega), List.drop_length, List.drop_eq_nil_of_le (by omega)]
      rw [d1]
      cases hi with
      | none => exact List.take_of_length_le (by rw [List.length_drop]; show ds.length - lo ≤ ds.length - min lo ds.length; omega)
      | some k =>
        show (ds.drop lo).take (min k ds.length - min lo ds.length) = (ds.drop lo).take (k - lo)
        by_cases c : k ≤ ds.length
        · by_cases c2 : lo ≤ ds.length
          · rw [Nat.min_eq_left c, Nat.min_eq_left c2]
          · rw [List.drop_eq_nil_of_le (by omega), List.take_nil, List.take_nil]
        · rw [List.take_of_length_le (by rw [List.length_drop]; omega), List.take_of_length_le (by rw [List.length_drop]; omega)]
    rw [e3, ← e4]; exact h0
  exact ⟨a, xs, rfl, SqL.of ea, fun p hp => q p _ _ (same_upd hp) hp upd_same ((oc.add hp).same (same_upd hp))⟩
theorem E_slLTo {k : Int} (h : El te ρ ds) (hh : Ep th ρ (.int k)) (h0 : 0 ≤ k) : Ef (tSl (rSlL K) te tNoPart (tPart th)) ρ (ds.take k.toNat) := fun H S σ Q en q =>
  h H S σ _ en fun a xs H2 k2 ea oa => hh.go (en.same k2) fun u H3 k3 o3 => by
    have e := o3.int_inv
    subst e
    refine ⟨_, rfl, ?_⟩
    have ek : some k = (some k.toNat).map fun k => ((k : Nat) : Int) := by show some k = some ((k.toNat : Nat) : Int); congr 1; omega
    rw [ek]
    exact slL_go (lo := 0) (hi := some k.toNat) (.inl ⟨rfl, rfl⟩) (k3 _ _ ea) (oa.same k3) fun p ys H4 k4 hp hy oc => q p ys H4 ((k2.trans k3).trans k4) (none_back (k2.trans k3) hp) hy oc
theorem E_slLFrom {k : Int} (h : El te ρ ds) (hl : Ep tl ρ (.int k)) (h0 : 0 ≤ k) : Ef (tSl (rSlL K) te (tPart tl) tNoPart) ρ (ds.drop k.toNat) := fun H S σ Q en q =>
  h H S σ _ en fun a xs H2 k2 ea oa => hl.go (en.same k2) fun u H3 k3 o3 => by
    have e := o3.int_inv
    subst e
    refine ⟨_, rfl, ?_⟩
    exact slL_go (lo := k.toNat) (hi := none) (.inr (by congr 1; omega)) (k3 _ _ ea) (oa.same k3) fun p ys H4 k4 hp hy oc => q p ys H4 ((k2.trans k3).trans k4) (none_back (k2.trans k3) hp) hy oc
theorem E_slLMid {k m : Int} (h : El te ρ ds) (hl : Ep tl ρ (.int k)) (hh : Ep th ρ (.int m)) (h0 : 0 ≤ k) (h1 : 0 ≤ m) : Ef (tSl (rSlL K) te (tPart tl) (tPart th)) ρ ((ds.drop k.toNat).take (m.toNat - k.toNat)) := fun H S σ Q en q =>
  h H S σ _ en fun a xs H2 k2 ea oa => hl.go (en.same k2) fun u H3 k3 o3 => by
    have e := o3.int_inv
    subst e
    refine ⟨_, rfl, hh.go (en.same (k2.trans k3)) fun u H4 k4 o4 => ?_⟩
    have e := o4.int_inv
    subst e
    refine ⟨_, rfl, ?_⟩
    have ek : some m = (some m.toNat).map fun k => ((k : Nat) : Int) := by show some m = some ((m.toNat : Nat) : Int); congr 1; omega
    rw [ek]
    exact slL_go (lo := k.toNat) (hi := some m.toNat) (.inr (by congr 1; omega)) (k4 _ _ (k3 _ _ ea)) ((oa.same k3).same k4) fun p ys H5 k5 hp hy oc => q p ys H5 (((k2.trans k3).trans k4).trans k5) (none_back ((k2.trans k3).trans k4) hp) hy oc
theorem Ocs.setAt {H : Hp} {S : AS} {v : V} {d : Dt} : ∀ {vs : List V} {ds : List Dt} (n : Nat), Ocs H S vs ds → Oc H S v d → Ocs H S (vs.set n v) (ds.set n d)
  | _, _, _, .nil, _ => .nil
  | _, _, 0, .cons h t, o => .cons o t
  | _, _, n + 1, .cons h t, o => .cons h (Ocs.setAt n t o)
/-- xs[k] = e -/
theorem Sv_put {j : Nat} {k : Int} (hj : ρ[j]? = some (.o ds)) (h : Ep te ρ d) (hk : Ep ti ρ (.int k)) (h0 : 0 ≤ k) (h1 : k.toNat < ds.length) (n : O.nx (ρ.set j (.o (ds.set k.toNat d)))) : Sv H0 S0 (tAsg te (gSub (tVar j) ti rSetL)) ρ O := fun H S σ D en rl kn kr kb kc =>
  h.go en fun v H2 k2 o => by
    obtain ⟨a, vs, ha, sa, hv, oc⟩ := (en.same k2).own hj
    refine ⟨_, ha, hk.go (en.same k2) fun u H3 k3 o3 => ?_⟩
    have e := o3.int_inv
    subst e
    have k23 := k2.trans k3
    refine ⟨a, vs, k, k.toNat, rfl, rfl, k3 _ _ hv, ?_, ?_⟩
    · show (if 0 ≤ k then (if k < (vs.length : Nat) then some k.toNat else none) else _) = _
      rw [if_pos h0, if_pos (by rw [oc.len]; omega)]
    have e2 := (en.same k23).put hj ha ((oc.same k3).setAt k.toNat (o.same k3))
    refine kn _ _ _ _ n e2 ⟨fun b u hb => ?_, rl.sub, rl.lv0, fun {i ds' b} h g => ?_⟩ ⟨fun o => (o.same k23).put sa, e2.lv⟩
    · rw [upd_ne (fun z => by rw [z, rl.fresh hj ha] at hb; cases hb)]
      exact k23 _ _ (rl.same _ _ hb)
    · rcases sl_set h with ⟨rfl, z⟩ | ⟨ne, h⟩
      · exact rl.fresh hj g
      · exact rl.fresh h g
end
/-! ### rules with the written part by its name -/
theorem isiK {X : Cx} (K : PySem.W.Frag) (h : X.K = K := by rfl) : CallR X (.builtin "isinstance") (rIsi K) := h ▸ call_isi
theorem lenK {X : Cx} (K : PySem.W.Frag) (h : X.K = K := by rfl) : CallR X (.builtin "len") (fun xs H Q => ∃ p ys, xs = [.ref p] ∧ (SqL K H p ys ∨ SqT K H p ys) ∧ Q (.int ys.length) H) := h ▸ call_len_seq
theorem pe_fldK {X : Cx} (K : PySem.W.Frag) {e : Expr} {f : Str} {pos : Pos} {ta : TE} (he : PE X e ta) (hb : attributeBase e f X.env (eval e X.env) = eval e X.env) (h : X.K = K := by rfl) : PE X (.Attribute e f pos) (tFld K ta f) := h ▸ pe_fld he hb
end Lc
namespace K61
open PySem PySem.Spec PyProof.Rows L2 Lc RZ
def topS (i : Nat) : Stmt := PySem.Challenge.pw_lanescounted_k61_schemes_within.main.body.getD i (.Pass ⟨0, 0, 0, 0⟩)
abbrev s_is_word : Stmt := topS 4
theorem sc_is_word : FnScope ["thing", "words"] ["thing", "words"] (defScope s_is_word) := ⟨rfl, rfl, rfl, by decide +kernel, rfl, by decide +kernel, by decide +kernel⟩
abbrev s_is_row : Stmt := topS 5
theorem sc_is_row : FnScope ["thing", "low", "high"] ["thing", "low", "high"] (defScope s_is_row) := ⟨rfl, rfl, rfl, by decide +kernel, rfl, by decide +kernel, by decide +kernel⟩
abbrev s_is_scheme : Stmt := topS 9
theorem sc_is_scheme : FnScope ["thing", "asks", "paced", "refused", "notes", "steady", "flag"] ["thing"] (defScope s_is_scheme) := ⟨rfl, rfl, rfl, by decide +kernel, rfl, by decide +kernel, by decide +kernel⟩
abbrev s_check_scheme : Stmt := topS 10
theorem sc_check_scheme : FnScope ["scheme"] ["scheme"] (defScope s_check_scheme) := ⟨rfl, rfl, rfl, by decide +kernel, rfl, by decide +kernel, by decide +kernel⟩
abbrev s_scheme_within : Stmt := topS 12
theorem sc_scheme_within : FnScope ["scheme", "other"] ["scheme", "other"] (defScope s_scheme_within) := ⟨rfl, rfl, rfl, by decide +kernel, rfl, by decide +kernel, by decide +kernel⟩
abbrev s_is_within : Stmt := topS 13
theorem sc_is_within : FnScope ["scheme", "other", "asks", "paced", "refused", "notes", "steady", "asks_too", "paced_too", "refused_too", "notes_too", "steady_too"] ["scheme", "other"] (defScope s_is_within) := ⟨rfl, rfl, rfl, by decide +kernel, rfl, by decide +kernel, by decide +kernel⟩
abbrev s_law_cell : Stmt := topS 15
theorem sc_law_cell : FnScope ["_law_script", "_law_k"] ["_law_script", "_law_k"] (defScope s_law_cell) := ⟨rfl, rfl, rfl, by decide +kernel, rfl, by decide +kernel, by decide +kernel⟩
abbrev s_law_draws : Stmt := topS 16
theorem sc_law_draws : FnScope ["_law_cell_here", "_law_sizes", "_law_primes", "_law_base", "_law_rest", "_law_row", "_law_k", "_law_mixed"] ["_law_cell_here", "_law_sizes"] (defScope s_law_draws) := ⟨rfl, rfl, rfl, by decide +kernel, rfl, by decide +kernel, by decide +kernel⟩
abbrev s_law_scheme : Stmt := topS 17
theorem sc_law_scheme : FnScope ["_law_draws_here", "_law_notes"] ["_law_draws_here"] (defScope s_law_scheme) := ⟨rfl, rfl, rfl, by decide +kernel, rfl, by decide +kernel, by decide +kernel⟩
abbrev s_law_pair : Stmt := topS 18
theorem sc_law_pair : FnScope ["_law_cell_here", "_law_draws_here", "_law_parts"] ["_law_cell_here"] (defScope s_law_pair) := ⟨rfl, rfl, rfl, by decide +kernel, rfl, by decide +kernel, by decide +kernel⟩
abbrev s_law_within : Stmt := topS 19
theorem sc_law_within : FnScope ["_law_scheme_here", "_law_other"] ["_law_scheme_here", "_law_other"] (defScope s_law_within) := ⟨rfl, rfl, rfl, by decide +kernel, rfl, by decide +kernel, by decide +kernel⟩
abbrev s_law : Stmt := topS 20
theorem sc_law : FnScope ["_law_script", "_law_k", "_law_pair_here", "_law_turn", "_law_scheme_here", "_law_other", "_law_actual"] ["_law_script"] (defScope s_law) := ⟨rfl, rfl, rfl, by decide +kernel, rfl, by decide +kernel, by decide +kernel⟩
structure Txt (K : PySem.W.Frag) (mg : Str → Option Value) where
  a_is_word : Addr
  d_is_word : FuncData
  F_is_word : Fun K "is_word" "is_word" s_is_word a_is_word d_is_word
  g_is_word : mg "is_word" = some (.ref a_is_word)
  b_is_word : Binds K d_is_word ["thing", "words"] []
  a_is_row : Addr
  d_is_row : FuncData
  F_is_row : Fun K "is_row" "is_row" s_is_row a_is_row d_is_row
  g_is_row : mg "is_row" = some (.ref a_is_row)
  b_is_row : Binds K d_is_row ["thing", "low", "high"] []
  a_is_scheme : Addr
  d_is_scheme : FuncData
  F_is_scheme : Fun K "is_scheme" "is_scheme" s_is_scheme a_is_scheme d_is_scheme
  g_is_scheme : mg "is_scheme" = some (.ref a_is_scheme)
  b_is_scheme : Binds K d_is_scheme ["thing"] []
  a_check_scheme : Addr
  d_check_scheme : FuncData
  F_check_scheme : Fun K "check_scheme" "check_scheme" s_check_scheme a_check_scheme d_check_scheme
  g_check_scheme : mg "check_scheme" = some (.ref a_check_scheme)
  b_check_scheme : Binds K d_check_scheme ["scheme"] []
  a_scheme_within : Addr
  d_scheme_within : FuncData
  F_scheme_within : Fun K "scheme_within" "scheme_within" s_scheme_within a_scheme_within d_scheme_within
  g_scheme_within : mg "scheme_within" = some (.ref a_scheme_within)
  b_scheme_within : Binds K d_scheme_within ["scheme", "other"] []
  a_is_within : Addr
  d_is_within : FuncData
  F_is_within : Fun K "is_within" "is_within" s_is_within a_is_within d_is_within
  g_is_within : mg "is_within" = some (.ref a_is_within)
  b_is_within : Binds K d_is_within ["scheme", "other"] []
  a_law_cell : Addr
  d_law_cell : FuncData
  F_law_cell : Fun K "_law_cell" "_law_cell" s_law_cell a_law_cell d_law_cell
  g_law_cell : mg "_law_cell" = some (.ref a_law_cell)
  b_law_cell : Binds K d_law_cell ["_law_script", "_law_k"] []
  a_law_draws : Addr
  d_law_draws : FuncData
  F_law_draws : Fun K "_law_draws" "_law_draws" s_law_draws a_law_draws d_law_draws
  g_law_draws : mg "_law_draws" = some (.ref a_law_draws)
  b_law_draws : Binds K d_law_draws ["_law_cell_here", "_law_sizes"] []
  a_law_scheme : Addr
  d_law_scheme : FuncData
  F_law_scheme : Fun K "_law_scheme" "_law_scheme" s_law_scheme a_law_scheme d_law_scheme
  g_law_scheme : mg "_law_scheme" = some (.ref a_law_scheme)
  b_law_scheme : Binds K d_law_scheme ["_law_draws_here"] []
  a_law_pair : Addr
  d_law_pair : FuncData
  F_law_pair : Fun K "_law_pair" "_law_pair" s_law_pair a_law_pair d_law_pair
  g_law_pair : mg "_law_pair" = some (.ref a_law_pair)
  b_law_pair : Binds K d_law_pair ["_law_cell_here"] []
  a_law_within : Addr
  d_law_within : FuncData
  F_law_within : Fun K "_law_within" "_law_within" s_law_within a_law_within d_law_within
  g_law_within : mg "_law_within" = some (.ref a_law_within)
  b_law_within : Binds K d_law_within ["_law_scheme_here", "_law_other"] []
  a_law : Addr
  d_law : FuncData
  F_law : Fun K "law" "law" s_law a_law d_law
  g_law : mg "law" = some (.ref a_law)
  b_law : Binds K d_law ["_law_script"] []
  z_abs : mg "abs" = none
  z_all : mg "all" = none
  z_bool : mg "bool" = none
  z_int : mg "int" = none
  z_isinstance : mg "isinstance" = none
  z_len : mg "len" = none
  z_max : mg "max" = none
  z_min : mg "min" = none
  z_range : mg "range" = none
  z_str : mg "str" = none
  z_tuple : mg "tuple" = none
  c_REFUSALS : Addr
  g_REFUSALS : mg "REFUSALS" = some (.ref c_REFUSALS)
  r_REFUSALS : RelV (.ref c_REFUSALS) (.ref c_REFUSALS)
  q_REFUSALS : ∀ H, SqT K H c_REFUSALS [.str "back", .str "lost"]
  c_NOTINGS : Addr
  g_NOTINGS : mg "NOTINGS" = some (.ref c_NOTINGS)
  r_NOTINGS : RelV (.ref c_NOTINGS) (.ref c_NOTINGS)
  q_NOTINGS : ∀ H, SqT K H c_NOTINGS [.str "behind", .str "first", .str "with"]
  C_LaneError : Addr
  g_LaneError : mg "LaneError" = some (.ref C_LaneError)
  x_LaneError : PySem.W.excIn K C_LaneError [.type "ValueError", .type "Exception", .type "BaseException", .type "object"] "ValueError.__new__" = true
  k_LaneError : PySem.W.keepIn K (.ref C_LaneError) = true
  p_LaneError : PySem.W.subIn K (.ref C_LaneError) (.type "BaseException") = some true
  t_LaneError : PySem.W.typeIn K (.ref C_LaneError) = some (.type "type")
  i_LaneError : PySem.W.isClsIn K C_LaneError = true
  C_BadScheme : Addr
  g_BadScheme : mg "BadScheme" = some (.ref C_BadScheme)
  x_BadScheme : PySem.W.excIn K C_BadScheme [.type "ValueError", .type "Exception", .type "BaseException", .type "object"] "ValueError.__new__" = true
  k_BadScheme : PySem.W.keepIn K (.ref C_BadScheme) = true
  p_BadScheme : PySem.W.subIn K (.ref C_BadScheme) (.type "BaseException") = some true
  t_BadScheme : PySem.W.typeIn K (.ref C_BadScheme) = some (.type "type")
  i_BadScheme : PySem.W.isClsIn K C_BadScheme = true
def Txt.exc {K : PySem.W.Frag} {mg : Str → Option Value} (T : Txt K mg) (n : String) : Addr := if n = "LaneError" then T.C_LaneError else if n = "BadScheme" then T.C_BadScheme else 0
section
variable {P : Program} {w : World} {K : PySem.W.Frag} {mg : Str → Option Value} {base : Heap}
theorem ok_is_word (T : Txt K mg) : FnOk P w K mg base CX0 1 T.a_is_word T.d_is_word ["thing", "words"] (spWord K) := by
  refine T.F_is_word.ok sc_is_word (fun vs H Q E h => ?_) (fun cdv A outer s H vs Q E hr h => ?_)
  · obtain ⟨x, t, ws, n, rfl, _⟩ := h
    rfl
  · obtain ⟨x, t, ws, n, rfl, ht, hx, q⟩ := h
    refine ⟨_, (pss_one (ps_ret (pe_and (pe_callB call_isi (by rfl) T.z_isinstance (by decide +kernel) (pa_cons (pv 0) (pa_cons (pe_bltn (v := .ty "str") (by rfl) T.z_str (by decide +kernel) rfl) pa_nil))) (pe_one (pe_cmpR op_in_seq (pv 0) (pv 1) rfl))))), ?_⟩
    refine ⟨x, rfl, x, _, _, _, _, rfl, .ty _, hx.ty, hx.str?, _, rfl, ?_⟩
    cases x with
    | str z =>
      refine iteT ⟨_, rfl, _, rfl, t, _, rfl, .inr ht, rfl, all_flat_str ws, ?_⟩
      rw [show (if false = true then !inV (V.str z) (ws.map V.str) else inV (V.str z) (ws.map V.str)) = decide (z ∈ ws) from inV_str z ws]
      exact q
    | int i => exact iteF q
    | bl b => exact iteF q
    | non => exact iteF q
    | byt z => cases hx
    | flt z => cases hx
    | ref z => exact iteF q
    | ty z => cases hx
end

section
variable {P : Program} {w : World} {K : PySem.W.Frag} {mg : Str → Option Value} {base : Heap}
theorem ifS_by {tt : TT} {t u : TS} {D : Ends} {σ : L2.St} {H : Hp} (b : Bool) (h : ∀ Q : Bool → Hp → Prop, Q b H → tt σ H Q) (g : if b = true then t D σ H else u D σ H) : tIfS tt t u D σ H := h _ g
def Drawn (sz row : List Int) : Prop := row.length = sz.length ∧ ∀ (i : Nat) (r z : Int), row[i]? = some r → sz[i]? = some z → 0 ≤ r ∧ r < z
def spCell (K : PySem.W.Frag) : Sp := fun vs H Q _ => ∃ (a : Addr) (ns : List Int) (k : Nat), vs = [.ref a, .int (k : Nat)] ∧ SqL K H a (ns.map V.int) ∧ (∀ z ∈ ns, Builtin.Int.intBits z ≤ 1048576) ∧ ∀ c : Int, c.natAbs.log2 ≤ 1048576 → Q (.int c) H
def spDraws : Sp := fun vs H Q _ => ∃ (c : Int) (l : Addr) (sz : List Int), vs = [.int c, .ref l] ∧ H l = some (.lst (sz.map V.int)) ∧ c.natAbs.log2 ≤ 1048576 ∧ sz.length ≤ 1000 ∧ (∀ z ∈ sz, 1 ≤ z ∧ z ≤ 1000000) ∧
  ∀ p H' row, Same H H' → H p = none → H' p = some (.lst (row.map V.int)) → Drawn sz row → Q (.ref p) H'
theorem ok_law_cell (T : Txt K mg) : FnOk P w K mg base CX0 1 T.a_law_cell T.d_law_cell ["_law_script", "_law_k"] (spCell K) := by
  refine T.F_law_cell.ok sc_law_cell (fun vs H Q E h => ?_) (fun cdv A outer s H vs Q E hr h => ?_)
  · obtain ⟨a, ns, k, rfl, _⟩ := h
    rfl
  · obtain ⟨a, ns, k, rfl, hs, hb, q⟩ := h
    refine ⟨_, (pss_cons (ps_if (pt_cmpR op_lt (pv 1) (pe_callB call_len_seq (by rfl) T.z_len (by decide +kernel) (pa_cons (pv 0) pa_nil)) (nomark _))
      (pss_one (ps_ret (pe_ix (ixL K) (pv 0) (pv 1) (fun _ _ => rfl))))
      pss_nil)
      (pss_one (ps_ret pe_int))), ?_⟩
    refine ⟨_, rfl, .ref a, rfl, a, _, rfl, .inl hs, _, _, rfl, rfl, _, rfl, ite2 (fun e => ?_) (fun e => q 0 (by decide))⟩
    have e1 := of_decide_eq_true e
    rw [List.length_map] at e1
    have hk : k < ns.length := by omega
    have e2 : (ns.map V.int)[k]? = some (.int ns[k]) := by
      rw [List.getElem?_map, List.getElem?_eq_getElem hk]; rfl
    exact ⟨.ref a, rfl, .int (k : Nat), rfl, a, _, _, _, rfl, rfl, hs, atI_nat e2, q _ (bits_log (hb _ (List.getElem_mem hk)))⟩
theorem ok_law_draws (T : Txt K mg) : FnOk P w K mg base CX0 1 T.a_law_draws T.d_law_draws ["_law_cell_here", "_law_sizes"] spDraws := by
  refine T.F_law_draws.ok sc_law_draws (fun vs H Q E h => ?_) (fun cdv A outer s H vs Q E hr h => ?_)
  · obtain ⟨c, l, sz, rfl, _⟩ := h
    rfl
  · obtain ⟨c, l, sz, rfl, hl, hc, hz, hs, q⟩ := h
    refine ⟨_, (pss_cons (ps_set (i := 2) sc_law_draws.nd rfl (Or.inl rfl) (pe_lst (pa_cons pe_int (pa_cons pe_int (pa_cons pe_int (pa_cons pe_int (pa_cons pe_int (pa_cons pe_int (pa_cons pe_int (pa_cons pe_int pa_nil))))))))))
      (pss_cons (ps_set (i := 3) sc_law_draws.nd rfl (Or.inl rfl) (pe_callB call_abs (by rfl) T.z_abs (by decide +kernel) (pa_cons (pe_callTy call_int1 (by rfl) T.z_int (by decide +kernel) (pa_cons (pv 0) pa_nil)) pa_nil)))
      (pss_cons (ps_set (i := 4) sc_law_draws.nd rfl (Or.inl rfl) (pv 3))
      (pss_cons (ps_set (i := 5) sc_law_draws.nd rfl (Or.inl rfl) (pe_lst pa_nil))
      (pss_cons (ps_for PassesOwn.never rfl (pi_range1 rfl T.z_range (pa_cons (pe_callB call_len_seq (by rfl) T.z_len (by decide +kernel) (pa_cons (pv 1) pa_nil)) pa_nil)) (pg_name (i := 6) sc_law_draws.nd rfl (Or.inl rfl))
      (pss_one (ps_if (PW.pt (pw_and (pt_cmpR op_ge (pv 3) (pe_op op_pow pe_int pe_int) (nomark _)) (pw_and1 (pt_cmpR op_gt (pv 4) pe_int (nomark _)))))
      (pss_cons (ps_expr (pe_bm PySem.F.plainAttrs_list PySem.F.slot_list_append PySem.F.type_list_append mt_append (pv 5) (pa_cons (pe_op op_mod (pe_callTy call_int1 (by rfl) T.z_int (by decide +kernel) (pa_cons (pv 4) pa_nil)) (pe_ix (ixL K) (pv 1) (pv 6) (fun _ _ => rfl))) pa_nil)))
      (pss_one (ps_set (i := 4) sc_law_draws.nd rfl (Or.inl rfl) (pe_op op_fdivW (pv 4) (pe_ix (ixL K) (pv 1) (pv 6) (fun _ _ => rfl))))))
      (pss_cons (ps_set (i := 7) sc_law_draws.nd rfl (Or.inl rfl) (pe_op op_mod (pe_callTy call_int1 (by rfl) T.z_int (by decide +kernel) (pa_cons (pe_op op_add (pe_op op_add (pe_op op_add (pe_op Lc.op_mulX (pv 3) pe_int) (pe_op Lc.op_mulX (pe_op Lc.op_mulX (pv 6) (pv 6)) pe_int)) (pe_op Lc.op_mulX (pv 6) pe_int)) pe_int) pa_nil)) (pe_ix (ixL K) (pv 2) (pe_op op_mod (pv 6) pe_int) (fun _ _ => rfl))))
      (pss_cons (ps_set (i := 7) sc_law_draws.nd rfl (Or.inl rfl) (pe_op op_mod (pe_callTy call_int1 (by rfl) T.z_int (by decide +kernel) (pa_cons (pe_op op_add (pe_op Lc.op_mulX (pv 7) (pv 7)) (pe_op Lc.op_mulX pe_int (pv 6))) pa_nil)) (pe_ix (ixL K) (pv 2) (pe_op op_mod (pe_op op_add (pv 6) pe_int) pe_int) (fun _ _ => rfl))))
      (pss_one (ps_expr (pe_bm PySem.F.plainAttrs_list PySem.F.slot_list_append PySem.F.type_list_append mt_append (pv 5) (pa_cons (pe_op op_mod (pe_callTy call_int1 (by rfl) T.z_int (by decide +kernel) (pa_cons (pv 7) pa_nil)) (pe_ix (ixL K) (pv 1) (pv 6) (fun _ _ => rfl))) pa_nil)))))))))
      (pss_one (ps_ret (pv 5)))))))), ?_⟩
    refine ⟨(by show 8 ≤ sizeLine; decide), fun l8 h8 => ?_⟩
    have k8 := same_upd (o := .lst [.int 2147483647, .int 1999999973, .int 1073741789, .int 998244353, .int 1000000007, .int 1000000009, .int 536870909, .int 805306457]) h8
    obtain ⟨b, hb, hb0, hbl⟩ : ∃ b : Int, (if c < 0 then -c else c) = b ∧ 0 ≤ b ∧ b.natAbs.log2 ≤ 1048576 := ⟨_, rfl, by split <;> omega, by split <;> (try rw [Int.natAbs_neg]) <;> exact hc⟩
    refine ⟨.int c, rfl, .inl ⟨c, rfl, c, rfl, ?_⟩⟩
    rw [hb]
    refine ⟨_, rfl, (by show 0 ≤ sizeLine; decide), fun D hD => ?_⟩
    have kD := same_upd (o := .lst []) hD
    have hD0 : H D = none := none_back k8 hD
    have nl8 : l8 ≠ D := ne_of_none upd_same hD
    refine ⟨_, rfl, l, _, rfl, .inl (SqL.of (kD _ _ (k8 _ _ hl))), _, rfl, by rw [List.length_map]; omega, by rw [List.length_map]; omega, ?_⟩
    rw [List.length_map, Int.toNat_natCast]
    refine for_range (lo := 0) (n := sz.length) (fun i σ' H' => ∃ (rest : Int) (k m : Option V) (row : List Int), σ' = [some (.int c), some (.ref l), some (.ref l8), some (.int b), some (.int rest), some (.ref D), k, m] ∧ 0 ≤ rest ∧ rest.natAbs.log2 ≤ 1048576 ∧ H' D = some (.lst (row.map V.int)) ∧ row.length = i ∧
      (∀ (j : Nat) (r z : Int), row[j]? = some r → sz[j]? = some z → 0 ≤ r ∧ r < z) ∧ Same H H' ∧ H' l8 = some (.lst [.int 2147483647, .int 1999999973, .int 1073741789, .int 998244353, .int 1000000007, .int 1000000009, .int 536870909, .int 805306457]))
      ⟨b, none, none, [], rfl, hb0, hbl, upd_same, rfl, fun j r z h => by simp at h, k8.trans kD, kD _ _ upd_same⟩ ?_ ?_
    · rintro i σ' H' hi ⟨rest, k, m, row, rfl, r0, rl, eD, rn, hrow, kk, e8⟩
      rw [Int.zero_add]
      have el := kk _ _ hl
      obtain ⟨z, hz2⟩ : ∃ z, sz[i]? = some z := ⟨_, List.getElem?_eq_getElem hi⟩
      obtain ⟨z1, z2⟩ := hs z (List.mem_of_getElem? hz2)
      have ez : (sz.map V.int)[i]? = some (.int z) := by rw [List.getElem?_map, hz2]; rfl
      have step : ∀ (x rest' : Int) (k m : Option V), 0 ≤ rest' → rest'.natAbs.log2 ≤ 1048576 → 0 ≤ x → x < z → ∃ (rest'' : Int) (k' m' : Option V) (row' : List Int), [some (V.int c), some (.ref l), some (.ref l8), some (.int b), some (.int rest'), some (.ref D), k, m] = [some (.int c), some (.ref l), some (.ref l8), some (.int b), some (.int rest''), some (.ref D), k', m'] ∧ 0 ≤ rest'' ∧ rest''.natAbs.log2 ≤ 1048576 ∧ (upd H' D (.lst (row.map V.int ++ [.int x]))) D = some (.lst (row'.map V.int)) ∧ row'.length = i + 1 ∧
          (∀ (j : Nat) (r z : Int), row'[j]? = some r → sz[j]? = some z → 0 ≤ r ∧ r < z) ∧ Same H (upd H' D (.lst (row.map V.int ++ [.int x]))) ∧ (upd H' D (.lst (row.map V.int ++ [.int x]))) l8 = some (.lst [.int 2147483647, .int 1999999973, .int 1073741789, .int 998244353, .int 1000000007, .int 1000000009, .int 536870909, .int 805306457]) := by
        intro x rest' k m a1 a2 a3 a4
        refine ⟨rest', k, m, row ++ [x], rfl, a1, a2, by rw [upd_same, List.map_append]; rfl, by rw [List.length_append, rn]; rfl, fun j r z' h1 h2 => ?_, fun b' o hb' => ?_, by rw [upd_ne nl8]; exact e8⟩
        · by_cases lt : j < row.length
          · rw [List.getElem?_append_left lt] at h1
            exact hrow j r z' h1 h2
          · rw [List.getElem?_append_right (by omega)] at h1
            have ej : j - row.length = 0 := by
              have := (List.getElem?_eq_some_iff.mp h1).1
              simp at this; omega
            rw [ej] at h1
            have e1 : x = r := by simpa using h1
            have ej2 : j = i := by omega
            subst ej2 e1
            rw [hz2] at h2
            have e2 := Option.some.inj h2
            subst e2
            exact ⟨a3, a4⟩
        · rw [upd_ne (fun e => by rw [e, hD0] at hb'; cases hb')]
          exact kk _ _ hb'
      have lrow : (row.map V.int).length < sizeLine := by
        rw [List.length_map, rn]; exact Nat.lt_of_lt_of_le (show i < 1000 by omega) (by decide)
      have ek : 0 ≤ (i : Int) := by omega
      have pr : ∀ (n : Nat), n < 8 → ∃ p : Int, ([.int 2147483647, .int 1999999973, .int 1073741789, .int 998244353, .int 1000000007, .int 1000000009, .int 536870909, .int 805306457] : List V)[n]? = some (.int p) ∧ 0 < p ∧ p ≤ 2147483647 := by
        intro n hn
        have h : n = 0 ∨ n = 1 ∨ n = 2 ∨ n = 3 ∨ n = 4 ∨ n = 5 ∨ n = 6 ∨ n = 7 := by omega
        rcases h with rfl | rfl | rfl | rfl | rfl | rfl | rfl | rfl <;> exact ⟨_, rfl, by decide, by decide⟩
      obtain ⟨p1, ep1, p10, p11⟩ := pr (i % 8) (by omega)
      obtain ⟨p2, ep2, p20, p21⟩ := pr ((i + 3) % 8) (by omega)
      have ix1 : (i : Int) % 8 = ((i % 8 : Nat) : Int) := by omega
      have ix2 : ((i : Int) + 3) % 8 = (((i + 3) % 8 : Nat) : Int) := by omega
      have fi : Few (i : Int) := few_le (b := 1000) (by omega) (by omega) (by decide)
      have fii : Few ((i : Int) * i) := few_le (b := 1000000) (Int.mul_nonneg ek ek) (Int.le_trans (Int.mul_le_mul (b := i) (c := 1000) (d := 1000) (by omega) (by omega) (by omega) (by omega)) (by decide)) (by decide)
      have f2 : ∀ n : Int, 0 ≤ n → n ≤ 1000000000000 → Few n := fun n h1 h2 => few_le (b := 1000000000000) h1 h2 (by decide)
      refine ifS_by (decide ((10 : Int) ^ 18 ≤ b) && decide (0 < rest)) (fun Q q => ?_) ?_
      · refine ⟨.int b, rfl, 10, 18, rfl, rfl, ⟨by decide, by decide, by decide⟩, b, _, rfl, rfl, _, rfl, ?_⟩
        refine ite2 (fun e1 => ?_) (fun e1 => ?_)
        · rw [show decide ((10 : Int) ^ 18 ≤ b) = true from e1, Bool.true_and] at q
          exact ⟨.int rest, rfl, rest, 0, rfl, rfl, _, rfl, q⟩
        · rw [show decide ((10 : Int) ^ 18 ≤ b) = false from Bool.eq_false_iff.mpr e1, Bool.false_and] at q
          exact q
      · cases decide ((10 : Int) ^ 18 ≤ b) && decide (0 < rest) with
        | true =>
          refine iteT ?_
          refine ⟨_, rfl, .inl ⟨rfl, _, SqL.of eD⟩, .int rest, rfl, .inl ⟨rest, rfl, .ref l, rfl, .int (i : Nat), rfl, l, _, _, .int z, rfl, rfl, SqL.of el, atI_nat ez, rest, z, rfl, rfl, (show 0 < z by omega), D, _, _, rfl, rfl, eD, lrow, ?_⟩⟩
          have nlD : l ≠ D := fun e => by rw [e, hD0] at hl; cases hl
          refine ⟨.int rest, rfl, .ref l, rfl, .int (i : Nat), rfl, l, _, _, .int z, rfl, rfl, SqL.of (by rw [upd_ne nlD]; exact el), atI_nat ez, rest, z, rfl, rfl, divX (by omega) (Nat.lt_of_lt_of_le (show z.natAbs < 2 ^ 64 by omega) (Nat.pow_le_pow_right (by decide) (by decide))), ?_⟩
          exact step (rest % z) (rest / z) _ _ (Int.ediv_nonneg r0 (by omega)) (idiv_log r0 z1 rl) (Int.emod_nonneg _ (by omega)) (Int.emod_lt_of_pos _ (by omega))
        | false =>
          refine iteF ?_
          refine ⟨.int b, rfl, b, 48271, rfl, rfl, mulX (few_bits hbl) (f2 _ (by decide) (by decide)), .int (i : Nat), rfl, .int (i : Nat), rfl, i, i, rfl, rfl, mulX fi fi, _, 7919, rfl, rfl, mulX fii (f2 _ (by decide) (by decide)), _, _, rfl, rfl, .int (i : Nat), rfl, i, 69621, rfl, rfl, mulX fi (f2 _ (by decide) (by decide)), _, _, rfl, rfl, _, 11, rfl, rfl, .inl ⟨_, rfl, .ref l8, rfl, .int (i : Nat), rfl, i, 8, rfl, rfl, (show (0 : Int) < 8 by decide), l8, _, _, .int p1, rfl, rfl, SqL.of e8, by rw [ix1]; exact atI_nat ep1, _, p1, rfl, rfl, p10, ?_⟩⟩
          have m10 : 0 ≤ ((b * 48271 + (i : Int) * i * 7919 + (i : Int) * 69621 + 11) % p1) := Int.emod_nonneg _ (by omega)
          have m11 : ((b * 48271 + (i : Int) * i * 7919 + (i : Int) * 69621 + 11) % p1) < p1 := Int.emod_lt_of_pos _ p10
          have fm := f2 _ m10 (by omega)
          refine ⟨.int ((b * 48271 + (i : Int) * i * 7919 + (i : Int) * 69621 + 11) % p1), rfl, .int ((b * 48271 + (i : Int) * i * 7919 + (i : Int) * 69621 + 11) % p1), rfl, _, _, rfl, rfl, mulX fm fm, .int (i : Nat), rfl, 40692, i, rfl, rfl, mulX (f2 _ (by decide) (by decide)) fi, _, _, rfl, rfl, .inl ⟨_, rfl, .ref l8, rfl, .int (i : Nat), rfl, i, 3, rfl, rfl, _, 8, rfl, rfl, (show (0 : Int) < 8 by decide), l8, _, _, .int p2, rfl, rfl, SqL.of e8, by rw [ix2]; exact atI_nat ep2, _, p2, rfl, rfl, p20, ?_⟩⟩
          refine ⟨_, rfl, .inl ⟨rfl, _, SqL.of eD⟩, .int ((((b * 48271 + (i : Int) * i * 7919 + (i : Int) * 69621 + 11) % p1) * ((b * 48271 + (i : Int) * i * 7919 + (i : Int) * 69621 + 11) % p1) + 40692 * (i : Int)) % p2), rfl, .inl ⟨_, rfl, .ref l, rfl, .int (i : Nat), rfl, l, _, _, .int z, rfl, rfl, SqL.of el, atI_nat ez, _, z, rfl, rfl, (show 0 < z by omega), D, _, _, rfl, rfl, eD, lrow, ?_⟩⟩
          exact step (((((b * 48271 + (i : Int) * i * 7919 + (i : Int) * 69621 + 11) % p1) * ((b * 48271 + (i : Int) * i * 7919 + (i : Int) * 69621 + 11) % p1) + 40692 * (i : Int)) % p2) % z) rest _ _ r0 rl (Int.emod_nonneg _ (by omega)) (Int.emod_lt_of_pos _ (by omega))
    · rintro σ' H' ⟨rest, k, m, row, rfl, r0, rl, eD, rn, hrow, kk, e8⟩
      exact ⟨_, rfl, q D H' row kk hD0 eD ⟨rn, hrow⟩⟩
end

local macro_rules | `(tactic| walk_at "M") => `(tactic| first
  | (with_reducible exact E_nil)
  | ((with_reducible apply E_cons) <;> walk_at "M")
  | ((with_reducible apply E_starT) <;> (walk_at "M"; done))
  | ((with_reducible apply E_starL) <;> walk_at "M")
  | ((with_reducible apply E_own); exact rfl)
  | ((with_reducible apply Ef.l); first | ((with_reducible apply E_lst) <;> walk_at "M") | ((with_reducible apply E_slLTo) <;> walk_at "M") | ((with_reducible apply E_slLFrom) <;> walk_at "M") | ((with_reducible apply E_slLMid) <;> walk_at "M") | ((with_reducible apply E_catL) <;> walk_at "M"))
  | ((with_reducible apply E_lst) <;> walk_at "M")
  | ((with_reducible apply E_slLTo) <;> walk_at "M")
  | ((with_reducible apply E_slLFrom) <;> walk_at "M")
  | ((with_reducible apply E_slLMid) <;> walk_at "M")
  | ((with_reducible apply E_catL) <;> walk_at "M")
  | ((with_reducible apply E_tand) <;> walk_at "M")
  | ((with_reducible apply E_tor) <;> walk_at "M")
  | ((with_reducible apply E_not) <;> walk_at "M")
  | ((with_reducible apply E_test) <;> walk_at "M")
  | ((with_reducible apply E_val) <;> walk_at "M")
  | ((with_reducible apply E_var); exact rfl)
  | ((with_reducible apply Lc.E_intE); exact rfl)
  | ((with_reducible apply Lc.E_strE); exact rfl)
  | ((with_reducible apply Lc.E_blE); exact rfl)
  | ((with_reducible apply Lc.E_nonE); exact rfl)
  | ((with_reducible apply E_tup) <;> walk_at "M")
  | ((with_reducible apply E_add) <;> walk_at "M")
  | ((with_reducible apply E_sub) <;> walk_at "M")
  | ((with_reducible apply E_lt) <;> walk_at "M")
  | ((with_reducible apply E_le) <;> walk_at "M")
  | ((with_reducible apply E_gt) <;> walk_at "M")
  | ((with_reducible apply E_ge) <;> walk_at "M")
  | ((with_reducible apply E_eqI) <;> (walk_at "M"; done))
  | ((with_reducible apply E_eqS) <;> (walk_at "M"; done))
  | ((with_reducible apply E_eqB) <;> (walk_at "M"; done))
  | ((with_reducible apply E_neI) <;> (walk_at "M"; done))
  | ((with_reducible apply E_neS) <;> (walk_at "M"; done))
  | ((with_reducible apply E_neB) <;> (walk_at "M"; done))
  | ((with_reducible apply E_and) <;> walk_at "M")
  | ((with_reducible apply E_or) <;> walk_at "M")
  | ((with_reducible apply E_neg) <;> walk_at "M")
  | ((with_reducible apply E_mod) <;> walk_at "M")
  | ((with_reducible apply E_ixTi) <;> walk_at "M")
  | ((with_reducible apply E_last) <;> walk_at "M")
  | ((with_reducible apply E_ixLi) <;> walk_at "M")
  | ((with_reducible apply E_cat) <;> walk_at "M")
  | ((with_reducible apply E_tupOf) <;> walk_at "M")
  | ((with_reducible apply E_lenT) <;> (walk_at "M"; done))
  | ((with_reducible apply E_lenL) <;> walk_at "M")
  | ((with_reducible apply Ef.p); first | ((with_reducible apply E_lst) <;> walk_at "M") | ((with_reducible apply E_slLTo) <;> walk_at "M") | ((with_reducible apply E_slLFrom) <;> walk_at "M") | ((with_reducible apply E_slLMid) <;> walk_at "M") | ((with_reducible apply E_catL) <;> walk_at "M"))
  | ((with_reducible apply Ep.l) <;> walk_at "M")
  | ((with_reducible intro _); walk_at "M") | exact rfl | assumption | (simp; done) | decide | omega | skip)
local macro_rules | `(tactic| walk_at "E") => `(tactic| first
  | ((with_reducible apply E_eq) <;> walk_at "M")
  | ((with_reducible apply Ea.eq) <;> walk_at "M")
  | ((with_reducible apply El.eq) <;> walk_at "M")
  | ((with_reducible apply Ef.eq) <;> walk_at "M")
  | ((with_reducible apply Et.eq) <;> walk_at "M")
  | walk_at "M")

section
variable {P : Program} {w : World} {K : PySem.W.Frag} {mg : Str → Option Value} {base : Heap}
/-- a good scheme -/
structure Sch where
  b0 : Bool
  b1 : Bool
  r : Str
  n : Str
  b2 : Bool
def Sch.dt (s : Sch) : Dt := .tup true [.bl s.b0, .bl s.b1, .str s.r, .str s.n, .bl s.b2]
structure Sch.Ok (s : Sch) : Prop where
  r : s.r ∈ refusals
  n : s.n ∈ notings
theorem ok_is_row (T : Txt K mg) : FnOk P w K mg base CX0 1 T.a_is_row T.d_is_row ["thing", "low", "high"] (spTy (fun a : Dt × Int × Int => [a.1, .int a.2.1, .int a.2.2]) (fun a => a.1.pl = true) fun a => .bl (rowD a.1 a.2.1 a.2.2)) := by
  refine T.F_is_row.ok sc_is_row (fun vs H Q E h => ?_) (fun cdv A outer s H vs Q E hr h => ?_)
  · obtain ⟨S, a, o, _⟩ := h
    exact o.len
  · obtain ⟨S, ⟨d, lo, hi⟩, o, lv, hp, q⟩ := h
    refine ⟨_, (pss_one (ps_ret (pe_and (pe_callB call_isi (by rfl) T.z_isinstance (by decide +kernel) (pa_cons (pv 0) (pa_cons (pe_bltn (v := .ty "tuple") (by rfl) T.z_tuple (by decide +kernel) rfl) pa_nil))) (pe_one (pe_chain op_le op_le (pv 1) (pe_callB call_len_seq (by rfl) T.z_len (by decide +kernel) (pa_cons (pv 0) pa_nil)) (pv 2)))))), ?_⟩
    refine fn_body lv o ?_ q
    refine Sv_ret ?_ rfl
    cases d with
    | tup z xs => exact E_eq (E_and (E_isi (E_var rfl) (kit_t _) hp) fun _ => E_chain (f := fun i j => decide (i ≤ j)) (g := fun i j => decide (i ≤ j)) (E_var rfl) (E_lenT (E_var rfl)) (E_var rfl)) rfl
    | _ => exact E_and (c := false) (E_isi (E_var rfl) (kit_t _) hp) fun z => nomatch z
theorem ok_is_scheme (T : Txt K mg) : FnOk P w K mg base CX0 2 T.a_is_scheme T.d_is_scheme ["thing"] (spTy (fun s : Sch => [s.dt]) Sch.Ok fun _ => .bl true) := by
  refine T.F_is_scheme.ok sc_is_scheme (fun vs H Q E h => ?_) (fun cdv A outer s H vs Q E hr h => ?_)
  · obtain ⟨S, a, o, _⟩ := h
    exact o.len
  · obtain ⟨S, s, o, lv, hp, q⟩ := h
    refine ⟨_, (pss_cons (ps_if (pt_not (pt_val (pe_call (ok_is_row T) (hr.mono (by decide)) rfl T.g_is_row T.F_is_row.kp T.b_is_row .nil pass0 (pa_cons (pv 0) (pa_cons pe_int (pa_cons pe_int pa_nil))))))
      (pss_one (ps_ret pe_bl))
      pss_nil)
      (pss_cons (ps_asg (pv 0) (pg_tup rfl (pgs_cons (pg_name (i := 1) sc_is_scheme.nd rfl (Or.inl rfl)) (pgs_cons (pg_name (i := 2) sc_is_scheme.nd rfl (Or.inl rfl)) (pgs_cons (pg_name (i := 3) sc_is_scheme.nd rfl (Or.inl rfl)) (pgs_cons (pg_name (i := 4) sc_is_scheme.nd rfl (Or.inl rfl)) (pgs_cons (pg_name (i := 5) sc_is_scheme.nd rfl (Or.inl rfl)) pgs_nil)))))))
      (pss_cons (ps_if (pt_not (pt_val (pe_callB (cr_all rfl) (by rfl) T.z_all (by decide +kernel) (pa_cons (pe_lc (own := [("flag", 6)]) (g := gName 6) (tt := tYes) (by rfl) sc_is_scheme.nd (pi_tup (pe_tupF (pa_cons (pv 1) (pa_cons (pv 2) (pa_cons (pv 5) pa_nil))))) (blkOk_by (own := [("flag", 6)]) (N := ["thing", "asks", "paced", "refused", "notes", "steady", "flag"]) (sc := defScope s_is_scheme) (by decide +kernel)) (fun _ _ _ _ _ => (pg_name (i := 6) sc_is_scheme.nd rfl (Or.inl rfl))) (fun _ _ _ _ _ => pts_nil) (fun _ _ _ _ _ => (pe_callB (isiK K) (by rfl) T.z_isinstance (by decide +kernel) (pa_cons (pv 6) (pa_cons (pe_bltn (v := .ty "bool") (by rfl) T.z_bool (by decide +kernel) rfl) pa_nil))))) pa_nil))))
      (pss_one (ps_ret pe_bl))
      pss_nil)
      (pss_one (ps_ret (pe_and (pe_call (ok_is_word T) (hr.mono (by decide)) rfl T.g_is_word T.F_is_word.kp T.b_is_word .nil pass0 (pa_cons (pv 3) (pa_cons (pe_glob rfl T.g_REFUSALS T.r_REFUSALS) pa_nil))) (pe_one (pe_call (ok_is_word T) (hr.mono (by decide)) rfl T.g_is_word T.F_is_word.kp T.b_is_word .nil pass0 (pa_cons (pv 4) (pa_cons (pe_glob rfl T.g_NOTINGS T.r_NOTINGS) pa_nil)))))))))), ?_⟩
    refine fn_body lv o ?_ q
    refine Sv_then (ρ1 := rho ["thing", "asks", "paced", "refused", "notes", "steady", "flag"] [s.dt]) (Sv_if (b := false) (E_not (E_val (b := true) (E_eq (E_callT (s.dt, 5, 5) (by walk_at "E") (by rfl)) (by rfl)))) (fun z => nomatch z) fun _ => Sv_skip rfl) ?_
    refine Sv_asgT (vs := [1, 2, 3, 4, 5]) (E_var rfl) (G_tup (G_cons (G_name (by simp)) (G_cons (G_name (by simp)) (G_cons (G_name (by simp)) (G_cons (G_name (by simp)) (G_cons (G_name (by simp)) G_nil)))))) ?_
    refine Sv_then (ρ1 := _) (Sv_if (b := false) (E_not (E_val (b := true) (E_eq (E_all (bs := [true, true, true]) (El.eq (Ef.l (E_lcT (r := fun _ => some (.bl true)) (ds := [.bl s.b0, .bl s.b1, .bl s.b2]) (z := true) (by walk_at "E") (by simp) fun d hd => ?_)) (by rfl))) (by rfl)))) (fun z => nomatch z) fun _ => Sv_skip rfl) ?_
    · obtain ⟨b, rfl⟩ : ∃ b, d = .bl b := by
        simp at hd
        rcases hd with rfl | rfl | rfl <;> exact ⟨_, rfl⟩
      exact C_map (E_eq (E_isi (E_var rfl) (kit_b _)) rfl)
    · refine Sv_ret (E_eq (E_and (E_word (ws := refusals) (E_var rfl) T.q_REFUSALS) fun _ => E_word (ws := notings) (E_var rfl) T.q_NOTINGS) ?_) rfl
      show Dt.bl (decide (s.r ∈ refusals) && decide (s.n ∈ notings)) = _
      rw [decide_eq_true hp.r, decide_eq_true hp.n]; rfl
theorem ok_check_scheme (T : Txt K mg) : FnOk P w K mg base (L2.CX P w) 3 T.a_check_scheme T.d_check_scheme ["scheme"] (spTy (fun s : Sch => [s.dt]) Sch.Ok fun _ => .non) := by
  refine T.F_check_scheme.okX sc_check_scheme (fun vs H Q E h => ?_) (fun cdv A outer s H vs Q E hr h => ?_)
  · obtain ⟨S, a, o, _⟩ := h
    exact o.len
  · obtain ⟨S, s, o, lv, hp, q⟩ := h
    refine ⟨_, (pss_one (ps_if (pt_not (pt_val (pe_call (ok_is_scheme T) (hr.mono (by decide)) rfl T.g_is_scheme T.F_is_scheme.kp T.b_is_scheme .nil pass0 (pa_cons (pv 0) pa_nil))))
      (pss_one (ps_raise rfl (takes_of rfl rfl rfl rfl) (pmk_own PySem.F.excBase_ValueError T.x_BadScheme T.g_BadScheme T.k_BadScheme (raises_own T.p_BadScheme T.t_BadScheme) rfl)))
      pss_nil)), ?_⟩
    refine fn_bodyN lv o ?_ q fun σ' H' k => q _ _ k .non
    exact Sv_if (b := false) (E_not (E_val (b := true) (E_eq (E_callT s (by walk_at "E") hp) (by rfl)))) (fun z => nomatch z) fun _ => Sv_skip trivial
def wthn (s o : Sch) : Bool := if (s.b0 && !o.b0) || ((o.b1 && !s.b1) || (o.b2 && !s.b2)) then false else decide (s.r = o.r) && decide (s.n ∈ [o.n, "with"])
theorem ok_is_within (T : Txt K mg) : FnOk P w K mg base CX0 1 T.a_is_within T.d_is_within ["scheme", "other"] (spTy (fun s : Sch × Sch => [s.1.dt, s.2.dt]) (fun _ => True) fun s => .bl (wthn s.1 s.2)) := by
  refine T.F_is_within.ok sc_is_within (fun vs H Q E h => ?_) (fun cdv A outer s H vs Q E hr h => ?_)
  · obtain ⟨S, a, o, _⟩ := h
    exact o.len
  · obtain ⟨S, ⟨s, u⟩, o, lv, hp, q⟩ := h
    refine ⟨_, (pss_cons (ps_asg (pv 0) (pg_tup rfl (pgs_cons (pg_name (i := 2) sc_is_within.nd rfl (Or.inl rfl)) (pgs_cons (pg_name (i := 3) sc_is_within.nd rfl (Or.inl rfl)) (pgs_cons (pg_name (i := 4) sc_is_within.nd rfl (Or.inl rfl)) (pgs_cons (pg_name (i := 5) sc_is_within.nd rfl (Or.inl rfl)) (pgs_cons (pg_name (i := 6) sc_is_within.nd rfl (Or.inl rfl)) pgs_nil)))))))
      (pss_cons (ps_asg (pv 1) (pg_tup rfl (pgs_cons (pg_name (i := 7) sc_is_within.nd rfl (Or.inl rfl)) (pgs_cons (pg_name (i := 8) sc_is_within.nd rfl (Or.inl rfl)) (pgs_cons (pg_name (i := 9) sc_is_within.nd rfl (Or.inl rfl)) (pgs_cons (pg_name (i := 10) sc_is_within.nd rfl (Or.inl rfl)) (pgs_cons (pg_name (i := 11) sc_is_within.nd rfl (Or.inl rfl)) pgs_nil)))))))
      (pss_cons (ps_if (PW.pt (pw_or (PW.pt (pw_and (pt_val (pv 2)) (pw_and1 (pt_not (pt_val (pv 7)))))) (pw_or (PW.pt (pw_and (pt_val (pv 8)) (pw_and1 (pt_not (pt_val (pv 3)))))) (pw_or1 (PW.pt (pw_and (pt_val (pv 11)) (pw_and1 (pt_not (pt_val (pv 6))))))))))
      (pss_one (ps_ret pe_bl))
      pss_nil)
      (pss_one (ps_ret (pe_and (pe_cmpR op_eq (pv 4) (pv 9) (nomark _)) (pe_one (pe_cmpR op_in_seq (pv 5) (pe_tupF (pa_cons (pv 10) (pa_cons pe_str pa_nil))) rfl)))))))), ?_⟩
    refine fn_body lv o ?_ q
    refine Sv_asgT (vs := [2, 3, 4, 5, 6]) (E_var rfl) (G_tup (G_cons (G_name (by simp)) (G_cons (G_name (by simp)) (G_cons (G_name (by simp)) (G_cons (G_name (by simp)) (G_cons (G_name (by simp)) G_nil)))))) ?_
    refine Sv_asgT (vs := [7, 8, 9, 10, 11]) (E_var rfl) (G_tup (G_cons (G_name (by simp)) (G_cons (G_name (by simp)) (G_cons (G_name (by simp)) (G_cons (G_name (by simp)) (G_cons (G_name (by simp)) G_nil)))))) ?_
    refine Sv_seq (fun r => r = _ ∧ ((s.b0 && !u.b0) || ((u.b1 && !s.b1) || (u.b2 && !s.b2))) = false) (Sv_if (b := (s.b0 && !u.b0) || ((u.b1 && !s.b1) || (u.b2 && !s.b2))) (by walk_at "E") (fun z => Sv_ret (by walk_at "E") ?_) fun z => Sv_skip ⟨rfl, z⟩) fun r hr => ?_
    · show _ = Dt.bl (wthn s u)
      unfold wthn
      rw [if_pos z]
    · obtain ⟨rfl, z⟩ := hr
      refine Sv_ret (E_eq (E_and (E_eqS (E_var rfl) (E_var rfl)) fun _ => E_inS (neg := false) (ws := [u.n, "with"]) (E_var rfl) (by walk_at "E")) ?_) rfl
      show _ = Dt.bl (wthn s u)
      unfold wthn
      rw [z]; rfl
end

section
variable {P : Program} {w : World} {K : PySem.W.Frag} {mg : Str → Option Value} {base : Heap}
theorem Sv_draws {H0 : Hp} {S0 : AS} {ρ : Rho} {O : Eo} {tu : TS} {i : Nat} {E : XK} {t : TA} {c : Int} (sz : List Int) (h : Ea t ρ [.int c, .lst (sz.map Dt.int)]) (hc : c.natAbs.log2 ≤ 1048576) (hz : sz.length ≤ 1000) (hs : ∀ z ∈ sz, 1 ≤ z ∧ z ≤ 1000000)
    (n : ∀ row : List Int, Drawn sz row → Sv H0 S0 tu (ρ.set i (.o (row.map Dt.int))) O) : Sv H0 S0 (tSeq (tAsg (tCall spDraws [] E t) (gName i)) tu) ρ O := fun H S σ D en rl kn kr kb kc => by
  refine h H S σ en H S _ (Lift.refl en.lv) fun vs H2 k o => ?_
  obtain ⟨v, u, rfl, ov, ou⟩ := o.two
  have e := ov.int_inv
  subst e
  obtain ⟨l, xs, rfl, hl, nl, ol⟩ := ou.lst_inv
  have ex := ol.ints
  subst ex
  refine ⟨c, l, sz, rfl, hl, hc, hz, hs, fun p H' row k2 hp hr hd => ?_⟩
  have kk := k.trans k2
  have na := none_back k hp
  have oc : Ocs H' (And1 S p) (row.map V.int) (row.map Dt.int) := ocs_ints row
  refine n row hd H' _ _ D (en.setO kk na hr oc) ⟨rl.same.trans kk, fun b z => .inl (rl.sub b z), rl.lv0, fun {j ds' b} h g => ?_⟩ (fun ρ' H' S' σ' n e r m => kn ρ' H' S' σ' n e r ⟨fun o => m.ob ((o.add na).same kk), m.lv⟩) kr (fun ρ' H' S' σ' n e r m => kb ρ' H' S' σ' n e r ⟨fun o => m.ob ((o.add na).same kk), m.lv⟩) (fun ρ' H' S' σ' n e r m => kc ρ' H' S' σ' n e r ⟨fun o => m.ob ((o.add na).same kk), m.lv⟩)
  rcases sl_set h with ⟨rfl, z⟩ | ⟨ne, h⟩
  · have hl : i < σ.length := by
      have := (List.getElem?_eq_some_iff.mp g).1; rwa [List.length_set] at this
    rw [List.getElem?_set_self hl] at g
    cases g
    exact none_back rl.same na
  · rw [List.getElem?_set_ne ne] at g
    exact rl.fresh h g
/-- a scheme of draws -/
def mkS : List Int → Sch
  | a :: b :: c :: d :: e :: _ => ⟨decide (a = 1), decide (b = 1), if c = 0 then "back" else "lost", if d = 0 then "behind" else if d = 1 then "first" else "with", decide (e = 1)⟩
  | _ => ⟨false, false, "back", "with", false⟩
def okS : List Int → Prop
  | a :: b :: c :: d :: e :: _ => (0 ≤ c ∧ c < 2) ∧ 0 ≤ d ∧ d < 3
  | _ => False
theorem mkS_ok {r : List Int} (h : okS r) : (mkS r).Ok := by
  match r, h with
  | a :: b :: c :: d :: e :: t, h =>
    refine ⟨?_, ?_⟩
    · show (if c = 0 then ("back" : Str) else "lost") ∈ refusals
      split <;> decide
    · show (if d = 0 then ("behind" : Str) else if d = 1 then "first" else "with") ∈ notings
      split
      · decide
      · split <;> decide
theorem ok_law_scheme (T : Txt K mg) : FnOk P w K mg base CX0 1 T.a_law_scheme T.d_law_scheme ["_law_draws_here"] (spTy (fun r : List Int => [.lst (r.map Dt.int)]) okS fun r => (mkS r).dt) := by
  refine T.F_law_scheme.ok sc_law_scheme (fun vs H Q E h => ?_) (fun cdv A outer s H vs Q E hr h => ?_)
  · obtain ⟨S, a, o, _⟩ := h
    exact o.len
  · obtain ⟨S, r, o, lv, hp, q⟩ := h
    match r, hp with
    | a :: b :: c :: d :: e :: t, ⟨⟨c0, c1⟩, d0, d1⟩ =>
    refine ⟨_, (pss_cons (ps_set (i := 1) sc_law_scheme.nd rfl (Or.inl rfl) (pe_ix (ixL K) (pe_lst (pa_cons pe_str (pa_cons pe_str (pa_cons pe_str pa_nil)))) (pe_ix (ixL K) (pv 0) pe_int (fun _ _ => rfl)) (fun _ _ => rfl)))
      (pss_one (ps_ret (pe_tupF (pa_cons (pe_cmpR op_eq (pe_ix (ixL K) (pv 0) pe_int (fun _ _ => rfl)) pe_int (nomark _)) (pa_cons (pe_cmpR op_eq (pe_ix (ixL K) (pv 0) pe_int (fun _ _ => rfl)) pe_int (nomark _)) (pa_cons (pe_ix (ixL K) (pe_lst (pa_cons pe_str (pa_cons pe_str pa_nil))) (pe_ix (ixL K) (pv 0) pe_int (fun _ _ => rfl)) (fun _ _ => rfl)) (pa_cons (pv 1) (pa_cons (pe_cmpR op_eq (pe_ix (ixL K) (pv 0) pe_int (fun _ _ => rfl)) pe_int (nomark _)) pa_nil))))))))), ?_⟩
    refine fn_body lv o ?_ q
    refine Sv_setT (d := .str (if d = 0 then "behind" else if d = 1 then "first" else "with")) ?_ rfl ?_
    · refine E_ixLi (ds := [.str "behind", .str "first", .str "with"]) (i := d) (by walk_at "E") (by walk_at "E") d0 ?_
      have h : d = 0 ∨ d = 1 ∨ d = 2 := by omega
      rcases h with rfl | rfl | rfl <;> rfl
    · refine Sv_ret (d := (mkS (a :: b :: c :: d :: e :: t)).dt) (E_tup (E_cons (E_eqI (by walk_at "E") (E_int _)) (E_cons (E_eqI (by walk_at "E") (E_int _)) (E_cons ?_ (E_cons (E_var rfl) (E_cons (E_eqI (by walk_at "E") (E_int _)) E_nil))))) (by simp)) rfl
      refine E_ixLi (ds := [.str "back", .str "lost"]) (i := c) (by walk_at "E") (by walk_at "E") c0 ?_
      have h : c = 0 ∨ c = 1 := by omega
      rcases h with rfl | rfl <;> rfl
end

section
variable {P : Program} {w : World} {K : PySem.W.Frag} {mg : Str → Option Value} {base : Heap}
theorem ok_scheme_within (T : Txt K mg) : FnOk P w K mg base (L2.CX P w) 4 T.a_scheme_within T.d_scheme_within ["scheme", "other"] (spTy (fun s : Sch × Sch => [s.1.dt, s.2.dt]) (fun s => s.1.Ok ∧ s.2.Ok) fun s => .bl (wthn s.1 s.2)) := by
  refine T.F_scheme_within.okX sc_scheme_within (fun vs H Q E h => ?_) (fun cdv A outer s H vs Q E hr h => ?_)
  · obtain ⟨S, a, o, _⟩ := h
    exact o.len
  · obtain ⟨S, ⟨s, u⟩, o, lv, hp, q⟩ := h
    refine ⟨_, (pss_cons (ps_expr (pe_call (ok_check_scheme T) (hr.mono (by decide)) rfl T.g_check_scheme T.F_check_scheme.kp T.b_check_scheme .nil (passes_call (takes_of rfl rfl rfl rfl) (fun _ _ _ _ h => h)) (pa_cons (pv 0) pa_nil)))
      (pss_cons (ps_expr (pe_call (ok_check_scheme T) (hr.mono (by decide)) rfl T.g_check_scheme T.F_check_scheme.kp T.b_check_scheme .nil (passes_call (takes_of rfl rfl rfl rfl) (fun _ _ _ _ h => h)) (pa_cons (pv 1) pa_nil)))
      (pss_one (ps_ret (pe_call (ok_is_within T) (hr.mono (by decide)) rfl T.g_is_within T.F_is_within.kp T.b_is_within .nil pass0 (pa_cons (pv 0) (pa_cons (pv 1) pa_nil))))))), ?_⟩
    refine fn_body lv o ?_ q
    refine Sv_then (Sv_drop (E_callT s (by walk_at "E") hp.1) rfl) ?_
    refine Sv_then (Sv_drop (E_callT u (by walk_at "E") hp.2) rfl) ?_
    exact Sv_ret (E_eq (E_callT (s, u) (by walk_at "E") trivial) (by rfl)) rfl
theorem ok_law_within (T : Txt K mg) : FnOk P w K mg base CX0 1 T.a_law_within T.d_law_within ["_law_scheme_here", "_law_other"] (spTy (fun s : Sch × Sch => [s.1.dt, s.2.dt]) (fun _ => True) fun s => .bl (wthn s.1 s.2)) := by
  refine T.F_law_within.ok sc_law_within (fun vs H Q E h => ?_) (fun cdv A outer s H vs Q E hr h => ?_)
  · obtain ⟨S, a, o, _⟩ := h
    exact o.len
  · obtain ⟨S, ⟨s, u⟩, o, lv, hp, q⟩ := h
    refine ⟨_, (pss_cons (ps_if (PW.pt (pw_and (pt_val (pe_ix (ixT K) (pv 0) pe_int (fun _ _ => rfl))) (pw_and1 (pt_not (pt_val (pe_ix (ixT K) (pv 1) pe_int (fun _ _ => rfl)))))))
      (pss_one (ps_ret pe_bl))
      pss_nil)
      (pss_cons (ps_if (PW.pt (pw_and (pt_val (pe_ix (ixT K) (pv 1) pe_int (fun _ _ => rfl))) (pw_and1 (pt_not (pt_val (pe_ix (ixT K) (pv 0) pe_int (fun _ _ => rfl)))))))
      (pss_one (ps_ret pe_bl))
      pss_nil)
      (pss_cons (ps_if (PW.pt (pw_and (pt_val (pe_ix (ixT K) (pv 1) pe_int (fun _ _ => rfl))) (pw_and1 (pt_not (pt_val (pe_ix (ixT K) (pv 0) pe_int (fun _ _ => rfl)))))))
      (pss_one (ps_ret pe_bl))
      pss_nil)
      (pss_one (ps_ret (pe_and (pe_cmpR op_eq (pe_ix (ixT K) (pv 0) pe_int (fun _ _ => rfl)) (pe_ix (ixT K) (pv 1) pe_int (fun _ _ => rfl)) (nomark _)) (pe_one (pe_cmpR op_in_seq (pe_ix (ixT K) (pv 0) pe_int (fun _ _ => rfl)) (pe_lst (pa_cons pe_str (pa_cons (pe_ix (ixT K) (pv 1) pe_int (fun _ _ => rfl)) pa_nil))) rfl)))))))), ?_⟩
    refine fn_body lv o ?_ q
    have ix : ∀ (x : Sch) (j : Int) (d : Dt) (te tl : TE) (ρ : Rho), Ep te ρ x.dt → Ep tl ρ (.int j) → 0 ≤ j → [Dt.bl x.b0, .bl x.b1, .str x.r, .str x.n, .bl x.b2][j.toNat]? = some d → Ep (tOp (rIxT K) te tl) ρ d := fun x j d te tl ρ h1 h2 h0 hd => E_ixTi h1 h2 h0 hd
    refine Sv_seq (fun r => r = _ ∧ (s.b0 && !u.b0) = false) (Sv_if (b := s.b0 && !u.b0) (E_tand (E_val (ix s 0 _ _ _ _ (E_var rfl) (E_int _) (by decide) rfl)) fun _ => E_not (E_val (ix u 0 _ _ _ _ (E_var rfl) (E_int _) (by decide) rfl))) (fun z => Sv_ret (E_bl _) ?_) fun z => Sv_skip ⟨rfl, z⟩) fun r hr => ?_
    · show _ = Dt.bl (wthn s u)
      unfold wthn
      rw [z]; rfl
    obtain ⟨rfl, z0⟩ := hr
    refine Sv_seq (fun r => r = _ ∧ (u.b1 && !s.b1) = false) (Sv_if (b := u.b1 && !s.b1) (E_tand (E_val (ix u 1 _ _ _ _ (E_var rfl) (E_int _) (by decide) rfl)) fun _ => E_not (E_val (ix s 1 _ _ _ _ (E_var rfl) (E_int _) (by decide) rfl))) (fun z => Sv_ret (E_bl _) ?_) fun z => Sv_skip ⟨rfl, z⟩) fun r hr => ?_
    · show _ = Dt.bl (wthn s u)
      unfold wthn
      rw [z, Bool.true_or, Bool.or_true]; rfl
    obtain ⟨rfl, z1⟩ := hr
    refine Sv_seq (fun r => r = _ ∧ (u.b2 && !s.b2) = false) (Sv_if (b := u.b2 && !s.b2) (E_tand (E_val (ix u 4 _ _ _ _ (E_var rfl) (E_int _) (by decide) rfl)) fun _ => E_not (E_val (ix s 4 _ _ _ _ (E_var rfl) (E_int _) (by decide) rfl))) (fun z => Sv_ret (E_bl _) ?_) fun z => Sv_skip ⟨rfl, z⟩) fun r hr => ?_
    · show _ = Dt.bl (wthn s u)
      unfold wthn
      rw [z, Bool.or_true, Bool.or_true]; rfl
    obtain ⟨rfl, z2⟩ := hr
    refine Sv_ret (E_eq (E_and (E_eqS (ix s 2 _ _ _ _ (E_var rfl) (E_int _) (by decide) rfl) (ix u 2 _ _ _ _ (E_var rfl) (E_int _) (by decide) rfl)) fun _ => E_inSL (neg := false) (ws := ["with", u.n]) (ix s 3 _ _ _ _ (E_var rfl) (E_int _) (by decide) rfl) (Ef.l (E_lst (E_cons (E_str _) (E_cons (ix u 3 _ _ _ _ (E_var rfl) (E_int _) (by decide) rfl) E_nil)) (by simp)))) ?_) rfl
    show Dt.bl (decide (s.r = u.r) && decide (s.n ∈ (["with", u.n] : List Str))) = Dt.bl (wthn s u)
    unfold wthn
    rw [z0, z1, z2]
    have e : decide (s.n ∈ (["with", u.n] : List Str)) = decide (s.n ∈ [u.n, "with"]) := decide_eq_decide.mpr (by simp [or_comm])
    rw [e]; rfl
end

section
variable {P : Program} {w : World} {K : PySem.W.Frag} {mg : Str → Option Value} {base : Heap}
def spPair : Sp := fun vs H Q _ => ∃ (S : AS) (c : Int), vs = [.int c] ∧ Lv H S ∧ c.natAbs.log2 ≤ 1048576 ∧ ∀ v H' (s u : Sch), s.Ok → u.Ok → Same H H' → Oc H' S v (.tup true [s.dt, u.dt]) → Q v H'
theorem list12 {α : Type} {l : List α} (h : l.length = 12) : ∃ a b c d e f g i j k m n, l = [a, b, c, d, e, f, g, i, j, k, m, n] := by
  match l, h with
  | [a, b, c, d, e, f, g, i, j, k, m, n], _ => exact ⟨a, b, c, d, e, f, g, i, j, k, m, n, rfl⟩
theorem ok_law_pair (T : Txt K mg) : FnOk P w K mg base CX0 2 T.a_law_pair T.d_law_pair ["_law_cell_here"] spPair := by
  refine T.F_law_pair.ok sc_law_pair (fun vs H Q E h => ?_) (fun cdv A outer s H vs Q E hr h => ?_)
  · obtain ⟨S, c, rfl, _⟩ := h
    rfl
  · obtain ⟨S, c, rfl, lv, hc, q⟩ := h
    refine ⟨_, (pss_cons (ps_set (i := 1) sc_law_pair.nd rfl (Or.inl rfl) (pe_call (ok_law_draws T) (hr.mono (by decide)) rfl T.g_law_draws T.F_law_draws.kp T.b_law_draws .nil pass0 (pa_cons (pv 0) (pa_cons (pe_lst (pa_cons pe_int (pa_cons pe_int (pa_cons pe_int (pa_cons pe_int (pa_cons pe_int (pa_cons pe_int (pa_cons pe_int (pa_cons pe_int (pa_cons pe_int (pa_cons pe_int (pa_cons pe_int (pa_cons pe_int pa_nil))))))))))))) pa_nil))))
      (pss_cons (ps_set (i := 2) sc_law_pair.nd rfl (Or.inl rfl) (pe_slice sl_list (pv 1) po_none (po_some pe_int)))
      (pss_cons (ps_if (pt_cmpR op_eq (pe_ix (ixL K) (pv 1) pe_int (fun _ _ => rfl)) pe_int (nomark _))
      (pss_one (ps_set (i := 2) sc_law_pair.nd rfl (Or.inl rfl) (pe_slice sl_list (pv 1) (po_some pe_int) (po_some pe_int))))
      (pss_one (ps_asg (pe_ix (ixL K) (pv 1) (pe_op op_add pe_int (pe_ix (ixL K) (pv 1) pe_int (fun _ _ => rfl))) (fun _ _ => rfl)) (pg_sub (pv 2) (pe_ix (ixL K) (pv 1) pe_int (fun _ _ => rfl)) set_list))))
      (pss_one (ps_ret (pe_tupF (pa_cons (pe_call (ok_law_scheme T) (hr.mono (by decide)) rfl T.g_law_scheme T.F_law_scheme.kp T.b_law_scheme .nil pass0 (pa_cons (pv 1) pa_nil)) (pa_cons (pe_call (ok_law_scheme T) (hr.mono (by decide)) rfl T.g_law_scheme T.F_law_scheme.kp T.b_law_scheme .nil pass0 (pa_cons (pv 2) pa_nil)) pa_nil)))))))), ?_⟩
    refine fn_bodyR (fun d => ∃ s u : Sch, s.Ok ∧ u.Ok ∧ d = .tup true [s.dt, u.dt]) lv (.cons (.int c) .nil) ?_ fun d v H' ⟨s, u, h1, h2, e⟩ k o => q v H' s u h1 h2 k (e ▸ o)
    refine Sv_draws [2, 2, 2, 3, 2, 2, 2, 2, 3, 2, 3, 5] (by walk_at "E") hc (by simp) (by simp) fun row hd => ?_
    obtain ⟨r0, r1, r2, r3, r4, r5, r6, r7, r8, r9, r10, r11, rfl⟩ := list12 hd.1
    obtain ⟨b2, b2'⟩ := hd.2 2 _ _ rfl rfl
    obtain ⟨b3, b3'⟩ := hd.2 3 _ _ rfl rfl
    obtain ⟨b7, b7'⟩ := hd.2 7 _ _ rfl rfl
    obtain ⟨b8, b8'⟩ := hd.2 8 _ _ rfl rfl
    obtain ⟨b11, b11'⟩ := hd.2 11 _ _ rfl rfl
    have h0 : okS [r0, r1, r2, r3, r4, r5, r6, r7, r8, r9, r10, r11] := ⟨⟨b2, b2'⟩, b3, b3'⟩
    refine Sv_newT (ds := [r0, r1, r2, r3, r4].map Dt.int) (by walk_at "E") rfl ?_
    refine Sv_seq (fun r => ∃ p : List Int, okS p ∧ r = [.d (.int c), .o ([r0, r1, r2, r3, r4, r5, r6, r7, r8, r9, r10, r11].map Dt.int), .o (p.map Dt.int)]) (Sv_if (b := decide (r10 = 0)) (by walk_at "E") (fun _ => Sv_new (ds := [r5, r6, r7, r8, r9].map Dt.int) (by walk_at "E") ⟨[r5, r6, r7, r8, r9], ⟨⟨b7, b7'⟩, b8, b8'⟩, rfl⟩) fun _ => ?_) fun ρ ⟨p, hp, e⟩ => ?_
    · have h : r11 = 0 ∨ r11 = 1 ∨ r11 = 2 ∨ r11 = 3 ∨ r11 = 4 := by omega
      rcases h with rfl | rfl | rfl | rfl | rfl
      · exact Sv_put (d := .int r5) (k := 0) rfl (by walk_at "E") (by walk_at "E") (by decide) (by simp) ⟨[r5, r1, r2, r3, r4], ⟨⟨b2, b2'⟩, b3, b3'⟩, rfl⟩
      · exact Sv_put (d := .int r6) (k := 1) rfl (by walk_at "E") (by walk_at "E") (by decide) (by simp) ⟨[r0, r6, r2, r3, r4], ⟨⟨b2, b2'⟩, b3, b3'⟩, rfl⟩
      · exact Sv_put (d := .int r7) (k := 2) rfl (by walk_at "E") (by walk_at "E") (by decide) (by simp) ⟨[r0, r1, r7, r3, r4], ⟨⟨b7, b7'⟩, b3, b3'⟩, rfl⟩
      · exact Sv_put (d := .int r8) (k := 3) rfl (by walk_at "E") (by walk_at "E") (by decide) (by simp) ⟨[r0, r1, r2, r8, r4], ⟨⟨b2, b2'⟩, b8, b8'⟩, rfl⟩
      · exact Sv_put (d := .int r9) (k := 4) rfl (by walk_at "E") (by walk_at "E") (by decide) (by simp) ⟨[r0, r1, r2, r3, r9], ⟨⟨b2, b2'⟩, b3, b3'⟩, rfl⟩
    · subst e
      refine Sv_frz (i := 1) rfl rfl ?_
      refine Sv_frz (i := 2) rfl rfl ?_
      refine Sv_ret (d := .tup true [(mkS [r0, r1, r2, r3, r4, r5, r6, r7, r8, r9, r10, r11]).dt, (mkS p).dt]) (E_tup (E_cons (E_eq (E_callT [r0, r1, r2, r3, r4, r5, r6, r7, r8, r9, r10, r11] (by walk_at "E") h0) (by rfl)) (E_cons (E_eq (E_callT p (by walk_at "E") hp) (by rfl)) E_nil)) (by simp)) ⟨_, _, mkS_ok h0, mkS_ok hp, rfl⟩
end

section
variable {P : Program} {w : World} {K : PySem.W.Frag} {mg : Str → Option Value} {base : Heap}
def spLaw (K : PySem.W.Frag) : Sp := fun vs H Q _ => ∃ (a : Addr) (ns : List Int), vs = [.ref a] ∧ SqL K H a (ns.map V.int) ∧ ns.length ≤ 63 ∧ (∀ z ∈ ns, Builtin.Int.intBits z ≤ 1048576) ∧ ∀ H', Q (.bl true) H'
theorem law_turn (T : Txt K mg) {H0 : Hp} {S0 : AS} {E E' : XK} {O : Eo} {x y : Sch} {a0 a1 a2 a3 a6 : Sl} (hx : x.Ok) (hy : y.Ok) {tif : TS}
    (hn : ∀ r, r = [a0, a1, a2, a3, .d x.dt, .d y.dt, .d (.bl (wthn x y))] → O.nx r) :
    Sv H0 S0 (tSeq (tAsg (tCall (spTy (fun s : Sch × Sch => [s.1.dt, s.2.dt]) (fun s => s.1.Ok ∧ s.2.Ok) fun s => .bl (wthn s.1 s.2)) [] E (tCons (tVar 4) (tCons (tVar 5) tNil))) (gName 6)) (tIfS (tOr (tNot (tB (tCB (rIsi K) (tCons (tVar 6) (tCons (tC (.ty "bool")) tNil))))) (tTest (tOp rNe (tVar 6) (tCall (spTy (fun s : Sch × Sch => [s.1.dt, s.2.dt]) (fun _ => True) fun s => .bl (wthn s.1 s.2)) [] E' (tCons (tVar 4) (tCons (tVar 5) tNil)))))) tif tNext)) [a0, a1, a2, a3, .d x.dt, .d y.dt, a6] O := by
  refine Sv_setT (d := .bl (wthn x y)) (E_eq (E_callT (x, y) (by walk_at "E") ⟨hx, hy⟩) (by rfl)) rfl ?_
  refine Sv_if (b := false) (Et.eq (E_tor (E_not (E_val (E_isi (d := .bl (wthn x y)) (E_var rfl) (kit_b _)))) fun _ => E_test (E_neB (a := wthn x y) (b := wthn x y) (E_var rfl) (E_eq (E_callT (x, y) (by walk_at "E") trivial) (by rfl)))) ?_) (fun z => nomatch z) fun _ => Sv_skip (hn _ rfl)
  show (!true || !decide (wthn x y = wthn x y)) = false
  rw [decide_eq_true rfl]; rfl
theorem ok_law (T : Txt K mg) : FnOk P w K mg base CX0 5 T.a_law T.d_law ["_law_script"] (spLaw K) := by
  refine T.F_law.ok sc_law (fun vs H Q E h => ?_) (fun cdv A outer s H vs Q E hr h => ?_)
  · obtain ⟨a, ns, rfl, _⟩ := h
    rfl
  · obtain ⟨a, ns, rfl, hS, hlen, hb, q⟩ := h
    refine ⟨_, (pss_cons (ps_for PassesOwn.never rfl (pi_range1 rfl T.z_range (pa_cons (pe_callB (call_max2 rfl) (by rfl) T.z_max (by decide +kernel) (pa_cons pe_int (pa_cons (pe_callB (call_min2 rfl) (by rfl) T.z_min (by decide +kernel) (pa_cons (pe_callB call_len_seq (by rfl) T.z_len (by decide +kernel) (pa_cons (pv 0) pa_nil)) (pa_cons pe_int pa_nil))) pa_nil))) pa_nil)) (pg_name (i := 1) sc_law.nd rfl (Or.inl rfl))
      (pss_cons (ps_set (i := 2) sc_law.nd rfl (Or.inl rfl) (pe_call (ok_law_pair T) (hr.mono (by decide)) rfl T.g_law_pair T.F_law_pair.kp T.b_law_pair .nil pass0 (pa_cons (pe_call (ok_law_cell T) (hr.mono (by decide)) rfl T.g_law_cell T.F_law_cell.kp T.b_law_cell .nil pass0 (pa_cons (pv 0) (pa_cons (pv 1) pa_nil))) pa_nil)))
      (pss_one (ps_for PassesOwn.never rfl (pi_range1 rfl T.z_range (pa_cons pe_int pa_nil)) (pg_name (i := 3) sc_law.nd rfl (Or.inl rfl))
      (pss_cons (ps_set (i := 4) sc_law.nd rfl (Or.inl rfl) (pe_ix (ixT K) (pv 2) (pe_op op_mod (pv 3) pe_int) (fun _ _ => rfl)))
      (pss_cons (ps_set (i := 5) sc_law.nd rfl (Or.inl rfl) (pe_ix (ixT K) (pv 2) (pe_op op_sub pe_int (pe_op op_mod (pv 3) pe_int)) (fun _ _ => rfl)))
      (pss_cons (ps_set (i := 6) sc_law.nd rfl (Or.inl rfl) (pe_call (ok_scheme_within T) (hr.mono (by decide)) rfl T.g_scheme_within T.F_scheme_within.kp T.b_scheme_within .nil passL (pa_cons (pv 4) (pa_cons (pv 5) pa_nil))))
      (pss_one (ps_if (PW.pt (pw_or (pt_not (pt_val (pe_callB call_isi (by rfl) T.z_isinstance (by decide +kernel) (pa_cons (pv 6) (pa_cons (pe_bltn (v := .ty "bool") (by rfl) T.z_bool (by decide +kernel) rfl) pa_nil))))) (pw_or1 (pt_cmpR op_ne (pv 6) (pe_call (ok_law_within T) (hr.mono (by decide)) rfl T.g_law_within T.F_law_within.kp T.b_law_within .nil pass0 (pa_cons (pv 4) (pa_cons (pv 5) pa_nil))) (nomark _)))))
      (pss_one (ps_ret pe_bl))
      pss_nil)))))))))
      (pss_one (ps_ret pe_bl))), ?_⟩
    refine ⟨.ref a, rfl, a, _, rfl, .inl hS, _, _, rfl, _, _, rfl, _, rfl, ?_, ?_, ?_⟩
    · rw [List.length_map]; split <;> (try split) <;> omega
    · rw [List.length_map]; split <;> (try split) <;> omega
    generalize (if (if (63 : Int) < ((ns.map V.int).length : Nat) then (63 : Int) else ((ns.map V.int).length : Nat)) > 1 then (if (63 : Int) < ((ns.map V.int).length : Nat) then (63 : Int) else ((ns.map V.int).length : Nat)) else 1).toNat = m
    refine for_range (lo := 0) (n := m) (fun i σ' H' => (∃ k1 k2 k3 k4 k5 k6, σ' = [some (.ref a), k1, k2, k3, k4, k5, k6]) ∧ Same H H') ⟨⟨_, _, _, _, _, _, rfl⟩, fun _ _ z => z⟩ ?_ ?_
    · rintro i σ' H' hi ⟨⟨k1, k2, k3, k4, k5, k6, rfl⟩, kk⟩
      rw [Int.zero_add]
      refine ⟨.ref a, rfl, .int (i : Nat), rfl, a, ns, i, rfl, kk.seq hS, hb, fun c hc => ⟨fun _ => False, c, rfl, fun _ z => z.elim, hc, fun v H2 s u hs hu k2 o2 => ?_⟩⟩
      have en : En H2 (fun _ => False) [some (.ref a), some (.int (i : Nat)), some v, k3, k4, k5, k6] [.v (.ref a), .no, .d (.tup true [s.dt, u.dt]), .no, .no, .no, .no] := (En.no (En.cons o2 (En.no (En.no (En.no (En.no (En.nil fun _ z => z.elim))))))).vl
      dsimp only [gName]
      refine (?_ : Sv H2 (fun _ => False) _ [.v (.ref a), .no, .d (.tup true [s.dt, u.dt]), .no, .no, .no, .no] ⟨fun ρ => ∃ x3 x4 x5 x6, ρ = [.v (.ref a), .no, .d (.tup true [s.dt, u.dt]), x3, x4, x5, x6], fun _ => False, fun _ => False, fun _ => False⟩) H2 _ _ _ en (Rl.refl (fun _ z => z.elim) fun j ds z => ?_) (fun ρ' H' S' σ' ⟨x3, x4, x5, x6, e⟩ en' rl' _ => ?_) (fun _ _ _ z => z.elim) (fun _ _ _ _ z => z.elim) (fun _ _ _ _ z => z.elim)
      · refine Sv_for (Es_rng (n := 4) (f := fun i ρ => ρ.set 3 (.d (.int (i : Nat)))) (vs := [3]) (by walk_at "E") (by decide) fun i _ ρ => G_name (by simp)) (fun _ ρ => ∃ x3 x4 x5 x6, ρ = [.v (.ref a), .no, .d (.tup true [s.dt, u.dt]), x3, x4, x5, x6]) ⟨_, _, _, _, rfl⟩ (fun j ρ' hj ⟨x3, x4, x5, x6, e⟩ => ?_) fun ρ' h => h
        subst e
        have h : j = 0 ∨ j = 1 ∨ j = 2 ∨ j = 3 := by omega
        rcases h with rfl | rfl | rfl | rfl
        · exact Sv_setT (d := s.dt) (by walk_at "E") rfl (Sv_setT (d := u.dt) (by walk_at "E") rfl (law_turn T hs hu fun r e => ⟨_, _, _, _, e⟩))
        · exact Sv_setT (d := u.dt) (by walk_at "E") rfl (Sv_setT (d := s.dt) (by walk_at "E") rfl (law_turn T hu hs fun r e => ⟨_, _, _, _, e⟩))
        · exact Sv_setT (d := s.dt) (by walk_at "E") rfl (Sv_setT (d := u.dt) (by walk_at "E") rfl (law_turn T hs hu fun r e => ⟨_, _, _, _, e⟩))
        · exact Sv_setT (d := u.dt) (by walk_at "E") rfl (Sv_setT (d := s.dt) (by walk_at "E") rfl (law_turn T hu hs fun r e => ⟨_, _, _, _, e⟩))
      · match j, z with
        | j + 7, z => simp at z
      · subst e
        obtain ⟨τ, rfl, l⟩ := en'.at7
        obtain ⟨t1, t2, t3, t4, t5, t6, rfl⟩ : ∃ a b c d e f, τ = [a, b, c, d, e, f] := by
          match τ, l with
          | [a, b, c, d, e, f], _ => exact ⟨_, _, _, _, _, _, rfl⟩
        exact ⟨⟨_, _, _, _, _, _, rfl⟩, (kk.trans k2).trans rl'.same⟩
    · rintro σ' H' ⟨⟨k1, k2, k3, k4, k5, k6, rfl⟩, kk⟩
      exact q H'
end

theorem all_mk {P : Program} {w : World} {K : PySem.W.Frag} {h : Heap} {mg : Str → Option Value} {fa f_is_word f_is_row f_is_scheme f_check_scheme f_scheme_within f_is_within f_law_cell f_law_draws f_law_scheme f_law_pair f_law_within C_LaneError C_BadScheme c_REFUSALS c_NOTINGS : Addr}
    (X : K.In h) (G : h.Ns mainGlobals mg) (hfa : mg "law" = some (.ref fa))
    {oc_is_word kV_is_word dc_is_word pm_is_word cd_is_word ct_is_word : Value} {od_is_word an_is_word : Option Addr} {sl_is_word : Array (Option Value)}
    (a_is_word : PySem.W.nsIn K mainGlobals "is_word" = some (some (.ref f_is_word)))
    (l_is_word : K.lookup f_is_word = some ⟨oc_is_word, od_is_word, .func (PySem.W.fnOf "is_word" "is_word" (defArgs s_is_word) (defBody s_is_word) (defScope s_is_word) .none kV_is_word dc_is_word pm_is_word an_is_word cd_is_word ct_is_word), sl_is_word⟩)
    (c_is_word : PySem.W.codeIn K cd_is_word "is_word" = true) (k_is_word : PySem.W.keepIn K (.ref f_is_word) = true)
    {oc_is_row kV_is_row dc_is_row pm_is_row cd_is_row ct_is_row : Value} {od_is_row an_is_row : Option Addr} {sl_is_row : Array (Option Value)}
    (a_is_row : PySem.W.nsIn K mainGlobals "is_row" = some (some (.ref f_is_row)))
    (l_is_row : K.lookup f_is_row = some ⟨oc_is_row, od_is_row, .func (PySem.W.fnOf "is_row" "is_row" (defArgs s_is_row) (defBody s_is_row) (defScope s_is_row) .none kV_is_row dc_is_row pm_is_row an_is_row cd_is_row ct_is_row), sl_is_row⟩)
    (c_is_row : PySem.W.codeIn K cd_is_row "is_row" = true) (k_is_row : PySem.W.keepIn K (.ref f_is_row) = true)
    {oc_is_scheme kV_is_scheme dc_is_scheme pm_is_scheme cd_is_scheme ct_is_scheme : Value} {od_is_scheme an_is_scheme : Option Addr} {sl_is_scheme : Array (Option Value)}
    (a_is_scheme : PySem.W.nsIn K mainGlobals "is_scheme" = some (some (.ref f_is_scheme)))
    (l_is_scheme : K.lookup f_is_scheme = some ⟨oc_is_scheme, od_is_scheme, .func (PySem.W.fnOf "is_scheme" "is_scheme" (defArgs s_is_scheme) (defBody s_is_scheme) (defScope s_is_scheme) .none kV_is_scheme dc_is_scheme pm_is_scheme an_is_scheme cd_is_scheme ct_is_scheme), sl_is_scheme⟩)
    (c_is_scheme : PySem.W.codeIn K cd_is_scheme "is_scheme" = true) (k_is_scheme : PySem.W.keepIn K (.ref f_is_scheme) = true)
    {oc_check_scheme kV_check_scheme dc_check_scheme pm_check_scheme cd_check_scheme ct_check_scheme : Value} {od_check_scheme an_check_scheme : Option Addr} {sl_check_scheme : Array (Option Value)}
    (a_check_scheme : PySem.W.nsIn K mainGlobals "check_scheme" = some (some (.ref f_check_scheme)))
    (l_check_scheme : K.lookup f_check_scheme = some ⟨oc_check_scheme, od_check_scheme, .func (PySem.W.fnOf "check_scheme" "check_scheme" (defArgs s_check_scheme) (defBody s_check_scheme) (defScope s_check_scheme) .none kV_check_scheme dc_check_scheme pm_check_scheme an_check_scheme cd_check_scheme ct_check_scheme), sl_check_scheme⟩)
    (c_check_scheme : PySem.W.codeIn K cd_check_scheme "check_scheme" = true) (k_check_scheme : PySem.W.keepIn K (.ref f_check_scheme) = true)
    {oc_scheme_within kV_scheme_within dc_scheme_within pm_scheme_within cd_scheme_within ct_scheme_within : Value} {od_scheme_within an_scheme_within : Option Addr} {sl_scheme_within : Array (Option Value)}
    (a_scheme_within : PySem.W.nsIn K mainGlobals "scheme_within" = some (some (.ref f_scheme_within)))
    (l_scheme_within : K.lookup f_scheme_within = some ⟨oc_scheme_within, od_scheme_within, .func (PySem.W.fnOf "scheme_within" "scheme_within" (defArgs s_scheme_within) (defBody s_scheme_within) (defScope s_scheme_within) .none kV_scheme_within dc_scheme_within pm_scheme_within an_scheme_within cd_scheme_within ct_scheme_within), sl_scheme_within⟩)
    (c_scheme_within : PySem.W.codeIn K cd_scheme_within "scheme_within" = true) (k_scheme_within : PySem.W.keepIn K (.ref f_scheme_within) = true)
    {oc_is_within kV_is_within dc_is_within pm_is_within cd_is_within ct_is_within : Value} {od_is_within an_is_within : Option Addr} {sl_is_within : Array (Option Value)}
    (a_is_within : PySem.W.nsIn K mainGlobals "is_within" = some (some (.ref f_is_within)))
    (l_is_within : K.lookup f_is_within = some ⟨oc_is_within, od_is_within, .func (PySem.W.fnOf "is_within" "is_within" (defArgs s_is_within) (defBody s_is_within) (defScope s_is_within) .none kV_is_within dc_is_within pm_is_within an_is_within cd_is_within ct_is_within), sl_is_within⟩)
    (c_is_within : PySem.W.codeIn K cd_is_within "is_within" = true) (k_is_within : PySem.W.keepIn K (.ref f_is_within) = true)
    {oc_law_cell kV_law_cell dc_law_cell pm_law_cell cd_law_cell ct_law_cell : Value} {od_law_cell an_law_cell : Option Addr} {sl_law_cell : Array (Option Value)}
    (a_law_cell : PySem.W.nsIn K mainGlobals "_law_cell" = some (some (.ref f_law_cell)))
    (l_law_cell : K.lookup f_law_cell = some ⟨oc_law_cell, od_law_cell, .func (PySem.W.fnOf "_law_cell" "_law_cell" (defArgs s_law_cell) (defBody s_law_cell) (defScope s_law_cell) .none kV_law_cell dc_law_cell pm_law_cell an_law_cell cd_law_cell ct_law_cell), sl_law_cell⟩)
    (c_law_cell : PySem.W.codeIn K cd_law_cell "_law_cell" = true) (k_law_cell : PySem.W.keepIn K (.ref f_law_cell) = true)
    {oc_law_draws kV_law_draws dc_law_draws pm_law_draws cd_law_draws ct_law_draws : Value} {od_law_draws an_law_draws : Option Addr} {sl_law_draws : Array (Option Value)}
    (a_law_draws : PySem.W.nsIn K mainGlobals "_law_draws" = some (some (.ref f_law_draws)))
    (l_law_draws : K.lookup f_law_draws = some ⟨oc_law_draws, od_law_draws, .func (PySem.W.fnOf "_law_draws" "_law_draws" (defArgs s_law_draws) (defBody s_law_draws) (defScope s_law_draws) .none kV_law_draws dc_law_draws pm_law_draws an_law_draws cd_law_draws ct_law_draws), sl_law_draws⟩)
    (c_law_draws : PySem.W.codeIn K cd_law_draws "_law_draws" = true) (k_law_draws : PySem.W.keepIn K (.ref f_law_draws) = true)
    {oc_law_scheme kV_law_scheme dc_law_scheme pm_law_scheme cd_law_scheme ct_law_scheme : Value} {od_law_scheme an_law_scheme : Option Addr} {sl_law_scheme : Array (Option Value)}
    (a_law_scheme : PySem.W.nsIn K mainGlobals "_law_scheme" = some (some (.ref f_law_scheme)))
    (l_law_scheme : K.lookup f_law_scheme = some ⟨oc_law_scheme, od_law_scheme, .func (PySem.W.fnOf "_law_scheme" "_law_scheme" (defArgs s_law_scheme) (defBody s_law_scheme) (defScope s_law_scheme) .none kV_law_scheme dc_law_scheme pm_law_scheme an_law_scheme cd_law_scheme ct_law_scheme), sl_law_scheme⟩)
    (c_law_scheme : PySem.W.codeIn K cd_law_scheme "_law_scheme" = true) (k_law_scheme : PySem.W.keepIn K (.ref f_law_scheme) = true)
    {oc_law_pair kV_law_pair dc_law_pair pm_law_pair cd_law_pair ct_law_pair : Value} {od_law_pair an_law_pair : Option Addr} {sl_law_pair : Array (Option Value)}
    (a_law_pair : PySem.W.nsIn K mainGlobals "_law_pair" = some (some (.ref f_law_pair)))
    (l_law_pair : K.lookup f_law_pair = some ⟨oc_law_pair, od_law_pair, .func (PySem.W.fnOf "_law_pair" "_law_pair" (defArgs s_law_pair) (defBody s_law_pair) (defScope s_law_pair) .none kV_law_pair dc_law_pair pm_law_pair an_law_pair cd_law_pair ct_law_pair), sl_law_pair⟩)
    (c_law_pair : PySem.W.codeIn K cd_law_pair "_law_pair" = true) (k_law_pair : PySem.W.keepIn K (.ref f_law_pair) = true)
    {oc_law_within kV_law_within dc_law_within pm_law_within cd_law_within ct_law_within : Value} {od_law_within an_law_within : Option Addr} {sl_law_within : Array (Option Value)}
    (a_law_within : PySem.W.nsIn K mainGlobals "_law_within" = some (some (.ref f_law_within)))
    (l_law_within : K.lookup f_law_within = some ⟨oc_law_within, od_law_within, .func (PySem.W.fnOf "_law_within" "_law_within" (defArgs s_law_within) (defBody s_law_within) (defScope s_law_within) .none kV_law_within dc_law_within pm_law_within an_law_within cd_law_within ct_law_within), sl_law_within⟩)
    (c_law_within : PySem.W.codeIn K cd_law_within "_law_within" = true) (k_law_within : PySem.W.keepIn K (.ref f_law_within) = true)
    {f_law : Addr}
    {oc_law kV_law dc_law pm_law cd_law ct_law : Value} {od_law an_law : Option Addr} {sl_law : Array (Option Value)}
    (a_law : PySem.W.nsIn K mainGlobals "law" = some (some (.ref f_law)))
    (l_law : K.lookup f_law = some ⟨oc_law, od_law, .func (PySem.W.fnOf "law" "law" (defArgs s_law) (defBody s_law) (defScope s_law) .none kV_law dc_law pm_law an_law cd_law ct_law), sl_law⟩)
    (c_law : PySem.W.codeIn K cd_law "law" = true) (k_law : PySem.W.keepIn K (.ref f_law) = true)
    (z_abs : PySem.W.nsIn K mainGlobals "abs" = some none)
    (z_all : PySem.W.nsIn K mainGlobals "all" = some none)
    (z_bool : PySem.W.nsIn K mainGlobals "bool" = some none)
    (z_int : PySem.W.nsIn K mainGlobals "int" = some none)
    (z_isinstance : PySem.W.nsIn K mainGlobals "isinstance" = some none)
    (z_len : PySem.W.nsIn K mainGlobals "len" = some none)
    (z_max : PySem.W.nsIn K mainGlobals "max" = some none)
    (z_min : PySem.W.nsIn K mainGlobals "min" = some none)
    (z_range : PySem.W.nsIn K mainGlobals "range" = some none)
    (z_str : PySem.W.nsIn K mainGlobals "str" = some none)
    (z_tuple : PySem.W.nsIn K mainGlobals "tuple" = some none)
    {od_REFUSALS : Option Addr} {ns_REFUSALS : Nat} {sl_REFUSALS : Array (Option Value)} {t0_REFUSALS : Tok} {t1_REFUSALS : Tok}
    (a_REFUSALS : PySem.W.nsIn K mainGlobals "REFUSALS" = some (some (.ref c_REFUSALS)))
    (l_REFUSALS : K.lookup c_REFUSALS = some ⟨.type "tuple", od_REFUSALS, .seq #[.str "back" t0_REFUSALS, .str "lost" t1_REFUSALS] ns_REFUSALS, sl_REFUSALS⟩)
    {od_NOTINGS : Option Addr} {ns_NOTINGS : Nat} {sl_NOTINGS : Array (Option Value)} {t0_NOTINGS : Tok} {t1_NOTINGS : Tok} {t2_NOTINGS : Tok}
    (a_NOTINGS : PySem.W.nsIn K mainGlobals "NOTINGS" = some (some (.ref c_NOTINGS)))
    (l_NOTINGS : K.lookup c_NOTINGS = some ⟨.type "tuple", od_NOTINGS, .seq #[.str "behind" t0_NOTINGS, .str "first" t1_NOTINGS, .str "with" t2_NOTINGS] ns_NOTINGS, sl_NOTINGS⟩)
    (ag_LaneError : PySem.W.nsIn K mainGlobals "LaneError" = some (some (.ref C_LaneError)))
    (ax_LaneError : PySem.W.excIn K C_LaneError [.type "ValueError", .type "Exception", .type "BaseException", .type "object"] "ValueError.__new__" = true)
    (ak_LaneError : PySem.W.keepIn K (.ref C_LaneError) = true) (ap_LaneError : PySem.W.subIn K (.ref C_LaneError) (.type "BaseException") = some true) (at_LaneError : PySem.W.typeIn K (.ref C_LaneError) = some (.type "type")) (ai_LaneError : PySem.W.isClsIn K C_LaneError = true)
    (ag_BadScheme : PySem.W.nsIn K mainGlobals "BadScheme" = some (some (.ref C_BadScheme)))
    (ax_BadScheme : PySem.W.excIn K C_BadScheme [.type "ValueError", .type "Exception", .type "BaseException", .type "object"] "ValueError.__new__" = true)
    (ak_BadScheme : PySem.W.keepIn K (.ref C_BadScheme) = true) (ap_BadScheme : PySem.W.subIn K (.ref C_BadScheme) (.type "BaseException") = some true) (at_BadScheme : PySem.W.typeIn K (.ref C_BadScheme) = some (.type "type")) (ai_BadScheme : PySem.W.isClsIn K C_BadScheme = true) :
    ∃ fd : FuncData, (∀ (s : Shared) (v : Value), BindsTo s fd ⟨[v], []⟩ [("_law_script", v)]) ∧ ∀ base : Heap, K.In base → base.Ns mainGlobals mg → FnOk P w K mg base CX0 5 fa fd ["_law_script"] (spLaw K) := by
  have e := hfa.symm.trans (PySem.W.mg_of X G a_law)
  cases e
  have F_is_word := fun_mk (st := s_is_word) l_is_word c_is_word k_is_word
  have b_is_word := F_is_word.binds (ps := ["thing", "words"]) fun _ _ _ _ _ _ us hl => match us, hl with | [_, _], _ => rfl
  have F_is_row := fun_mk (st := s_is_row) l_is_row c_is_row k_is_row
  have b_is_row := F_is_row.binds (ps := ["thing", "low", "high"]) fun _ _ _ _ _ _ us hl => match us, hl with | [_, _, _], _ => rfl
  have F_is_scheme := fun_mk (st := s_is_scheme) l_is_scheme c_is_scheme k_is_scheme
  have b_is_scheme := F_is_scheme.binds (ps := ["thing"]) fun _ _ _ _ _ _ us hl => match us, hl with | [_], _ => rfl
  have F_check_scheme := fun_mk (st := s_check_scheme) l_check_scheme c_check_scheme k_check_scheme
  have b_check_scheme := F_check_scheme.binds (ps := ["scheme"]) fun _ _ _ _ _ _ us hl => match us, hl with | [_], _ => rfl
  have F_scheme_within := fun_mk (st := s_scheme_within) l_scheme_within c_scheme_within k_scheme_within
  have b_scheme_within := F_scheme_within.binds (ps := ["scheme", "other"]) fun _ _ _ _ _ _ us hl => match us, hl with | [_, _], _ => rfl
  have F_is_within := fun_mk (st := s_is_within) l_is_within c_is_within k_is_within
  have b_is_within := F_is_within.binds (ps := ["scheme", "other"]) fun _ _ _ _ _ _ us hl => match us, hl with | [_, _], _ => rfl
  have F_law_cell := fun_mk (st := s_law_cell) l_law_cell c_law_cell k_law_cell
  have b_law_cell := F_law_cell.binds (ps := ["_law_script", "_law_k"]) fun _ _ _ _ _ _ us hl => match us, hl with | [_, _], _ => rfl
  have F_law_draws := fun_mk (st := s_law_draws) l_law_draws c_law_draws k_law_draws
  have b_law_draws := F_law_draws.binds (ps := ["_law_cell_here", "_law_sizes"]) fun _ _ _ _ _ _ us hl => match us, hl with | [_, _], _ => rfl
  have F_law_scheme := fun_mk (st := s_law_scheme) l_law_scheme c_law_scheme k_law_scheme
  have b_law_scheme := F_law_scheme.binds (ps := ["_law_draws_here"]) fun _ _ _ _ _ _ us hl => match us, hl with | [_], _ => rfl
  have F_law_pair := fun_mk (st := s_law_pair) l_law_pair c_law_pair k_law_pair
  have b_law_pair := F_law_pair.binds (ps := ["_law_cell_here"]) fun _ _ _ _ _ _ us hl => match us, hl with | [_], _ => rfl
  have F_law_within := fun_mk (st := s_law_within) l_law_within c_law_within k_law_within
  have b_law_within := F_law_within.binds (ps := ["_law_scheme_here", "_law_other"]) fun _ _ _ _ _ _ us hl => match us, hl with | [_, _], _ => rfl
  have F_law := fun_mk (st := s_law) l_law c_law k_law
  have b_law := F_law.binds (ps := ["_law_script"]) fun _ _ _ _ _ _ us hl => match us, hl with | [_], _ => rfl
  exact ⟨PySem.W.fnOf "law" "law" (defArgs s_law) (defBody s_law) (defScope s_law) .none kV_law dc_law pm_law an_law cd_law ct_law, fun s v => .of_eq rfl, fun base _ _ => ok_law (P := P) (w := w) (mg := mg) (base := base) ({ a_is_word := _, d_is_word := _, F_is_word := F_is_word, g_is_word := PySem.W.mg_of X G a_is_word, b_is_word := b_is_word, a_is_row := _, d_is_row := _, F_is_row := F_is_row, g_is_row := PySem.W.mg_of X G a_is_row, b_is_row := b_is_row, a_is_scheme := _, d_is_scheme := _, F_is_scheme := F_is_scheme, g_is_scheme := PySem.W.mg_of X G a_is_scheme, b_is_scheme := b_is_scheme, a_check_scheme := _, d_check_scheme := _, F_check_scheme := F_check_scheme, g_check_scheme := PySem.W.mg_of X G a_check_scheme, b_check_scheme := b_check_scheme, a_scheme_within := _, d_scheme_within := _, F_scheme_within := F_scheme_within, g_scheme_within := PySem.W.mg_of X G a_scheme_within, b_scheme_within := b_scheme_within, a_is_within := _, d_is_within := _, F_is_within := F_is_within, g_is_within := PySem.W.mg_of X G a_is_within, b_is_within := b_is_within, a_law_cell := _, d_law_cell := _, F_law_cell := F_law_cell, g_law_cell := PySem.W.mg_of X G a_law_cell, b_law_cell := b_law_cell, a_law_draws := _, d_law_draws := _, F_law_draws := F_law_draws, g_law_draws := PySem.W.mg_of X G a_law_draws, b_law_draws := b_law_draws, a_law_scheme := _, d_law_scheme := _, F_law_scheme := F_law_scheme, g_law_scheme := PySem.W.mg_of X G a_law_scheme, b_law_scheme := b_law_scheme, a_law_pair := _, d_law_pair := _, F_law_pair := F_law_pair, g_law_pair := PySem.W.mg_of X G a_law_pair, b_law_pair := b_law_pair, a_law_within := _, d_law_within := _, F_law_within := F_law_within, g_law_within := PySem.W.mg_of X G a_law_within, b_law_within := b_law_within, a_law := _, d_law := _, F_law := F_law, g_law := PySem.W.mg_of X G a_law, b_law := b_law, z_abs := PySem.W.mg_none_of X G z_abs, z_all := PySem.W.mg_none_of X G z_all, z_bool := PySem.W.mg_none_of X G z_bool, z_int := PySem.W.mg_none_of X G z_int, z_isinstance := PySem.W.mg_none_of X G z_isinstance, z_len := PySem.W.mg_none_of X G z_len, z_max := PySem.W.mg_none_of X G z_max, z_min := PySem.W.mg_none_of X G z_min, z_range := PySem.W.mg_none_of X G z_range, z_str := PySem.W.mg_none_of X G z_str, z_tuple := PySem.W.mg_none_of X G z_tuple, c_REFUSALS := _, g_REFUSALS := PySem.W.mg_of X G a_REFUSALS, r_REFUSALS := rfl, q_REFUSALS := fun _ => .inr ⟨_, _, _, l_REFUSALS, rfl, rfl, by show 2 ≤ sizeLine; decide, .cons ⟨_, rfl⟩ (.cons ⟨_, rfl⟩ (.nil))⟩, c_NOTINGS := _, g_NOTINGS := PySem.W.mg_of X G a_NOTINGS, r_NOTINGS := rfl, q_NOTINGS := fun _ => .inr ⟨_, _, _, l_NOTINGS, rfl, rfl, by show 3 ≤ sizeLine; decide, .cons ⟨_, rfl⟩ (.cons ⟨_, rfl⟩ (.cons ⟨_, rfl⟩ (.nil)))⟩, C_LaneError := _, g_LaneError := PySem.W.mg_of X G ag_LaneError, x_LaneError := ax_LaneError, k_LaneError := ak_LaneError, p_LaneError := ap_LaneError, t_LaneError := at_LaneError, i_LaneError := ai_LaneError, C_BadScheme := _, g_BadScheme := PySem.W.mg_of X G ag_BadScheme, x_BadScheme := ax_BadScheme, k_BadScheme := ak_BadScheme, p_BadScheme := ap_BadScheme, t_BadScheme := at_BadScheme, i_BadScheme := ai_BadScheme } : Txt K mg)⟩
end K61
open PySem PySem.W PyProof.Rows
set_option maxRecDepth 100000 in
set_option maxHeartbeats 0 in
theorem PySem.Challenge.cw_lanescounted_k61_schemes_within_holds : PySem.Challenge.rw_lanescounted_k61_schemes_within.Holds := by
  w_on; o_law; k_head; (case hw => w_witness2)
  k_fill
  refine L2.walk_ofB (l := PySem.Challenge.rw_lanescounted_k61_schemes_within) (n := 63) (k := 5) (x := "_law_script") (CX := fun w => L2.CX0) (sp := fun w => K61.spLaw _) rfl (by decide) rfl ⟨rfl, by decide, by decide⟩ (fun w h Y => PySem.W.kIn_of Y) ?F (fun _ _ a ns hl hb _ hS => ⟨a, ns, rfl, hS, hl, hb, fun _ => rfl⟩) (fun _ _ _ _ _ h => h)
  case F =>
    intro w mg fa h KX G hmg
    refine' K61.all_mk KX G hmg ?a_is_word ?l_is_word ?c_is_word ?k_is_word ?a_is_row ?l_is_row ?c_is_row ?k_is_row ?a_is_scheme ?l_is_scheme ?c_is_scheme ?k_is_scheme ?a_check_scheme ?l_check_scheme ?c_check_scheme ?k_check_scheme ?a_scheme_within ?l_scheme_within ?c_scheme_within ?k_scheme_within ?a_is_within ?l_is_within ?c_is_within ?k_is_within ?a_law_cell ?l_law_cell ?c_law_cell ?k_law_cell ?a_law_draws ?l_law_draws ?c_law_draws ?k_law_draws ?a_law_scheme ?l_law_scheme ?c_law_scheme ?k_law_scheme ?a_law_pair ?l_law_pair ?c_law_pair ?k_law_pair ?a_law_within ?l_law_within ?c_law_within ?k_law_within ?a_law ?l_law ?c_law ?k_law ?z_abs ?z_all ?z_bool ?z_int ?z_isinstance ?z_len ?z_max ?z_min ?z_range ?z_str ?z_tuple ?a_REFUSALS ?l_REFUSALS ?a_NOTINGS ?l_NOTINGS ?ag_LaneError ?ax_LaneError ?ak_LaneError ?ap_LaneError ?at_LaneError ?ai_LaneError ?ag_BadScheme ?ax_BadScheme ?ak_BadScheme ?ap_BadScheme ?at_BadScheme ?ai_BadScheme
    (case a_is_word => k_is)
    (case l_is_word => k_is)
    (case c_is_word => k_is)
    (case k_is_word => k_is)
    (case a_is_row => k_is)
    (case l_is_row => k_is)
    (case c_is_row => k_is)
    (case k_is_row => k_is)
    (case a_is_scheme => k_is)
    (case l_is_scheme => k_is)
    (case c_is_scheme => k_is)
    (case k_is_scheme => k_is)
    (case a_check_scheme => k_is)
    (case l_check_scheme => k_is)
    (case c_check_scheme => k_is)
    (case k_check_scheme => k_is)
    (case a_scheme_within => k_is)
    (case l_scheme_within => k_is)
    (case c_scheme_within => k_is)
    (case k_scheme_within => k_is)
    (case a_is_within => k_is)
    (case l_is_within => k_is)
    (case c_is_within => k_is)
    (case k_is_within => k_is)
    (case a_law_cell => k_is)
    (case l_law_cell => k_is)
    (case c_law_cell => k_is)
    (case k_law_cell => k_is)
    (case a_law_draws => k_is)
    (case l_law_draws => k_is)
    (case c_law_draws => k_is)
    (case k_law_draws => k_is)
    (case a_law_scheme => k_is)
    (case l_law_scheme => k_is)
    (case c_law_scheme => k_is)
    (case k_law_scheme => k_is)
    (case a_law_pair => k_is)
    (case l_law_pair => k_is)
    (case c_law_pair => k_is)
    (case k_law_pair => k_is)
    (case a_law_within => k_is)
    (case l_law_within => k_is)
    (case c_law_within => k_is)
    (case k_law_within => k_is)
    (case a_law => k_is)
    (case l_law => k_is)
    (case c_law => k_is)
    (case k_law => k_is)
    (case z_abs => k_is)
    (case z_all => k_is)
    (case z_bool => k_is)
    (case z_int => k_is)
    (case z_isinstance => k_is)
    (case z_len => k_is)
    (case z_max => k_is)
    (case z_min => k_is)
    (case z_range => k_is)
    (case z_str => k_is)
    (case z_tuple => k_is)
    (case a_REFUSALS => k_is)
    (case l_REFUSALS => k_is)
    (case a_NOTINGS => k_is)
    (case l_NOTINGS => k_is)
    (case ag_LaneError => k_is)
    (case ax_LaneError => k_exc)
    (case ak_LaneError => k_is)
    (case ap_LaneError => k_is)
    (case at_LaneError => k_is)
    (case ai_LaneError => k_is)
    (case ag_BadScheme => k_is)
    (case ax_BadScheme => k_exc)
    (case ak_BadScheme => k_is)
    (case ap_BadScheme => k_is)
    (case at_BadScheme => k_is)
    (case ai_BadScheme => k_is)
