import PyProof.Rows.All
import Wide.All
import OpenK.AllK
import Wide.FinOn
import PySem.Challenge.RW_lanescounted_k05_courses_of_counts
import HandS.ForMost
import HandS.ForExc
import HandS.Wide
import HandS.IsInst
import HandS.EndBits
import HandS.Small
import HandS.FStr
import HandS.Gcd
import HandS.Strs
import HandS.SetFor
import HandS.ExcIs
import HandS.TryMany
import HandS.Style
import HandS.TupAny
import HandS.Zip
import HandS.TupMul
import HandS.Conv
import KE.DataFind
import KE.DataMinMax
import KE.SortData
import HandS.Deep
import KE.DataCmp
import HandS.SetBool
import HandS.SetFor
import HandS.Strs
set_option Elab.async false
set_option linter.all false
set_option maxRecDepth 100000
set_option maxHeartbeats 4000000
namespace Lc
open PySem PySem.Spec PyProof.Rows L2
/-! ### great ints -/
/-- two factors of together less than a hundred million bits -/
def CMulX (i j : Int) : Prop := i.natAbs.log2 + j.natAbs.log2 < 100000000
theorem intBits_le (x : Int) : Builtin.Int.intBits x ≤ x.natAbs.log2 + 1 := by
  unfold Builtin.Int.intBits; split <;> omega
theorem CMulX.ok {i j : Int} (h : CMulX i j) : IntMulOk i j := by
  have a := intBits_le i
  have b := intBits_le j
  unfold CMulX at h
  intro z
  have y := (Bool.and_eq_true _ _ ▸ z).2
  unfold Builtin.Int.intTooBig at y
  have x := of_decide_eq_true y
  have l : bitsLine = 134217728 := by decide
  omega
theorem op_mulX {X : Cx} : OpR X (binaryOp .Mult) (rI CMulX fun i j => .int (i * j)) := opI fun _ _ _ _ _ _ _ hc q => mul_int q hc.ok
/-- few bits -/
def Few (i : Int) : Prop := i.natAbs.log2 ≤ 2000000
theorem few_of {i : Int} (h : i.natAbs < 2 ^ 240) : Few i := by
  have := PySem.Flt.log2_lt_of (n := i.natAbs) (k := 240) (by omega) h
  unfold Few; omega
theorem few_le {i : Int} {b : Int} (h0 : 0 ≤ i) (h : i ≤ b) (hb : b.natAbs < 2 ^ 240) : Few i := few_of (Nat.lt_of_le_of_lt (by omega) hb)
theorem mulX {i j : Int} (h : Few i) (h' : Few j) : CMulX i j := by unfold CMulX; unfold Few at h h'; omega
theorem divX {i j : Int} (h : 0 < j) (hb : j.natAbs < 2 ^ 240) : CDivW i j := wide_div (b := 240) h hb (by decide) (by decide)
theorem log2_mono {a b : Nat} (h : a ≤ b) : a.log2 ≤ b.log2 := by
  rcases Nat.eq_zero_or_pos a with h0 | h0
  · subst h0; simp
  · have hb : b ≠ 0 := by omega
    have h1 : 2 ^ a.log2 ≤ a := Nat.log2_self_le (by omega)
    exact (Nat.le_log2 hb).mpr (by omega)
theorem bits_log {z : Int} (h : Builtin.Int.intBits z ≤ 1048576) : z.natAbs.log2 ≤ 1048576 := by
  unfold Builtin.Int.intBits at h
  split at h
  · rename_i h0; simp_all
  · omega
/-! ### heaps -/
/-- all that was tracked, but for a, is as it was -/
def But (a : Addr) (H H' : Hp) : Prop := ∀ b o, b ≠ a → H b = some o → H' b = some o
theorem But.refl (a : Addr) (H : Hp) : But a H H := fun _ _ _ h => h
theorem But.trans {a : Addr} {H H1 H2 : Hp} (x : But a H H1) (y : But a H1 H2) : But a H H2 := fun b o n h => y b o n (x b o n h)
theorem But.same {a : Addr} {H H1 H2 : Hp} (x : But a H H1) (y : Same H1 H2) : But a H H2 := fun b o n h => y b o (x b o n h)
theorem Same.but {a : Addr} {H H1 : Hp} (y : Same H H1) : But a H H1 := fun b o _ h => y b o h
theorem But.new {a : Addr} {H H1 H2 : Hp} (y : Same H H1) (x : But a H1 H2) : But a H H2 := fun b o n h => x b o n (y b o h)
theorem same_upd {H : Hp} {p : Addr} {o : HO} (h : H p = none) : Same H (upd H p o) := fun b x e => by
  rw [upd_ne (ne_of_none e h)]
  exact e
theorem But.upd {a : Addr} {H H' : Hp} {o : HO} (x : But a H H') : But a H (upd H' a o) := fun b u n h => by
  rw [upd_ne n]
  exact x b u n h
/-! ### statements joined behind an if -/
theorem seq_cut {t u : TS} {D : Ends} {σ : L2.St} {H : Hp} (M : L2.St → Hp → Prop) (h2 : ∀ σ' H', M σ' H' → u D σ' H') (h1 : (∀ σ' H', M σ' H' → u D σ' H') → t { D with nx := u D } σ H) : tSeq t u D σ H := h1 h2
theorem if_cut {c : TT} {t1 t2 u : TS} {D : Ends} {σ : L2.St} {H : Hp} (M : L2.St → Hp → Prop) (h2 : ∀ σ' H', M σ' H' → u D σ' H') (h1 : (∀ σ' H', M σ' H' → u D σ' H') → tIfS c t1 t2 { D with nx := u D } σ H) : tSeq (tIfS c t1 t2) u D σ H := h1 h2
/-! ### the source of draws -/
structure Src (H : Hp) (a : Addr) (n : Nat) : Prop where
  ex : ∃ (l : Addr) (ns : List Int) (x y z : Int), H a = some (.lst [.ref l, .int x, .int y, .int z]) ∧ H l = some (.lst (ns.map V.int)) ∧ (∀ k ∈ ns, k.natAbs.log2 ≤ 1048576) ∧ ns.length ≤ 63 ∧
    0 ≤ x ∧ x.natAbs.log2 ≤ 1048576 ∧ 0 ≤ y ∧ y < 2147483647 ∧ 0 ≤ z ∧ z ≤ (n : Int)
def spDraw : Sp := fun vs H Q _ => ∃ (a : Addr) (n : Nat) (lim : Int), vs = [.ref a, .int lim] ∧ Src H a n ∧ n < 1000000 ∧ 1 ≤ lim ∧ lim ≤ 1000000000000 ∧
  ∀ d H', 0 ≤ d → d < lim → Src H' a (n + 1) → But a H H' → Q (.int d) H'
def spSource (K : PySem.W.Frag) : Sp := fun vs H Q _ => ∃ (a : Addr) (ns : List Int), vs = [.ref a] ∧ SqL K H a (ns.map V.int) ∧ ns.length ≤ 63 ∧ (∀ z ∈ ns, Builtin.Int.intBits z ≤ 1048576) ∧
  ∀ p H', H p = none → Src H' p 0 → Same H H' → Q (.ref p) H'
def spGreat : Sp := fun vs H Q _ => ∃ (a : Addr) (n : Nat) (lim : Int), vs = [.ref a, .int lim] ∧ Src H a n ∧ n + 5 < 1000000 ∧ 1 ≤ lim ∧ lim ≤ 10 ^ 60 ∧
  ∀ d H', 0 ≤ d → d < lim → Src H' a (n + 5) → But a H H' → Q (.int d) H'
/-- what is behind the first if of a draw -/
structure Mid (H0 : Hp) (a : Addr) (n : Nat) (H : Hp) : Prop where
  src : Src H a n
  but : But a H0 H
theorem src_ne {H : Hp} {a b : Addr} {n : Nat} (S : Src H a n) (h : H b = none) : b ≠ a := by
  obtain ⟨l, ns, x, y, z, h1, _⟩ := S.ex
  intro e; subst e; rw [h] at h1; cases h1
theorem Src.le {H : Hp} {a : Addr} {n m : Nat} (S : Src H a n) (h : n ≤ m) : Src H a m := by
  obtain ⟨l, ns, x, y, z, h1, h2, h3, h4, h5, h6, h7, h8, h9, h10⟩ := S.ex
  exact ⟨l, ns, x, y, z, h1, h2, h3, h4, h5, h6, h7, h8, h9, by omega⟩
theorem Src.same {H H' : Hp} {a : Addr} {n : Nat} (S : Src H a n) (k : Same H H') : Src H' a n := by
  obtain ⟨l, ns, x, y, z, h1, h2, h3⟩ := S.ex
  exact ⟨l, ns, x, y, z, k _ _ h1, k _ _ h2, h3⟩
theorem cut1 (l : List V) : cutV l (some 1) none = l.drop 1 := by
  have e1 : HT.sIx l.length 0 (some 1) = min 1 l.length := HT.sIx_nat l.length 0 1
  have e2 : HT.sIx l.length l.length none = l.length := HT.sIx_none ..
  show ((l.drop (HT.sIx l.length 0 (some 1))).take (HT.sIx l.length l.length none - HT.sIx l.length 0 (some 1))) = l.drop 1
  rw [e1, e2]
  match l with
  | [] => rfl
  | a :: r =>
    have e3 : min 1 (a :: r).length = 1 := Nat.min_eq_left (by simp)
    rw [e3]
    exact List.take_of_length_le (by simp)
theorem idiv_log {x j : Int} (h0 : 0 ≤ x) (hj : 1 ≤ j) {k : Nat} (h : x.natAbs.log2 ≤ k) : (x / j).natAbs.log2 ≤ k := by
  have h1 : 0 ≤ x / j := Int.ediv_nonneg h0 (by omega)
  have h2 : x / j ≤ x := Int.ediv_le_self j h0
  have h3 : (x / j).natAbs ≤ x.natAbs := by omega
  exact Nat.le_trans (log2_mono h3) h
def pw9 : Nat → Int
  | 0 => 1
  | n + 1 => pw9 n * 1000000000
theorem pw9_le {i : Nat} (h : i ≤ 5) : pw9 i ≤ 1000000000000000000000000000000000000000000000 := by
  match i, h with
  | 0, _ => decide
  | 1, _ => decide
  | 2, _ => decide
  | 3, _ => decide
  | 4, _ => decide
  | 5, _ => decide
theorem few_bits {k : Int} (h : k.natAbs.log2 ≤ 1048576) : Few k := by unfold Few; omega
theorem ends_true {Q : VK} {b : Bool} {H : Hp} (q : ∀ H', Q (.bl true) H') (h : b = true) : Q (.bl b) H := h ▸ q H
/-! ### rules with the written part by its name (within a comprehension) -/
theorem ixL {X : Cx} (K : PySem.W.Frag) (h : X.K = K := by rfl) : IxR X (rIxL K) := h ▸ ix_list
theorem ixT {X : Cx} (K : PySem.W.Frag) (h : X.K = K := by rfl) : IxR X (rIxT K) := h ▸ ix_tup
/-! ### what an object is -/
inductive Arg (K : PySem.W.Frag) (H : Hp) : V → String → Prop where
  | non : Arg K H .non "NoneType"
  | bl (b : Bool) : Arg K H (.bl b) "bool"
  | int (i : Int) : Arg K H (.int i) "int"
  | str (x : Str) : Arg K H (.str x) "str"
  | lst {a : Addr} {xs : List V} (e : H a = some (.lst xs)) : Arg K H (.ref a) "list"
  | tup {a : Addr} {xs : List V} (e : H a = some (.tup xs)) : Arg K H (.ref a) "tuple"
  | dK {a : Addr} {kvs : List (Key × V)} (e : H a = some (.dK kvs)) : Arg K H (.ref a) "dict"
  | ftup {a : Addr} {o : Obj} {xs : List V} (e : H a = some (.frz o (.tup xs))) : Arg K H (.ref a) "tuple"
def isI : V → Bool
  | .int _ => true | .bl _ => true | _ => false
def isB : V → Bool
  | .bl _ => true | _ => false
def isS : V → Bool
  | .str _ => true | _ => false
section
variable {K : PySem.W.Frag} {H : Hp} {x : V} {n : String}
theorem Arg.ty (h : Arg K H x n) : TyX K H x (.type n) := by
  cases h with
  | non => exact .base .non
  | bl b => exact .base (.bl b)
  | int i => exact .base (.int i)
  | str s => exact .base (.str s)
  | lst e => exact .base (.lst e)
  | tup e => exact .base (.tup e)
  | dK e => exact .base (.dK e)
  | ftup e => exact .fTuple e
theorem Arg.int? (h : Arg K H x n) : PySem.W.kitOne K (.type n) (.type "int") = some (isI x) := by
  cases h <;> first | exact kit_ty (r := true) (by decide +kernel) | exact kit_ty (r := false) (by decide +kernel)
theorem Arg.bool? (h : Arg K H x n) : PySem.W.kitOne K (.type n) (.type "bool") = some (isB x) := by
  cases h <;> first | exact kit_ty (r := true) (by decide +kernel) | exact kit_ty (r := false) (by decide +kernel)
theorem Arg.str? (h : Arg K H x n) : PySem.W.kitOne K (.type n) (.type "str") = some (isS x) := by
  cases h <;> first | exact kit_ty (r := true) (by decide +kernel) | exact kit_ty (r := false) (by decide +kernel)
end
/-- an integer from lo to hi, no bool -/
def wholeV (x : V) (lo hi : Int) : Bool := match x with
  | .int i => decide (lo ≤ i) && decide (i ≤ hi)
  | _ => false
def wordV (x : V) (ws : List Str) : Bool := match x with
  | .str s => decide (s ∈ ws)
  | _ => false
theorem inV_str (s : Str) (ws : List Str) : inV (.str s) (ws.map V.str) = decide (s ∈ ws) := by
  unfold inV
  induction ws with
  | nil => rfl
  | cons w r ih =>
    rw [List.map_cons, List.any_cons, ih]
    show ((w == s) || decide (s ∈ r)) = decide (s ∈ w :: r)
    by_cases e : w = s
    · subst e; simp
    · have e2 : (w == s) = false := beq_eq_false_iff_ne.mpr e
      have e3 : ¬ s = w := fun z => e z.symm
      rw [e2, Bool.false_or]
      simp [e3]
theorem all_flat_str (ws : List Str) : (ws.map V.str).all flatV = true := by
  induction ws with
  | nil => rfl
  | cons w r ih => rw [List.map_cons, List.all_cons, ih]; rfl
theorem atI_two {α : Type} {x y : α} {d : Int} (h0 : 0 ≤ d) (h1 : d < 2) : atI [x, y] d = some (if d = 0 then x else y) := by
  have h : d = 0 ∨ d = 1 := by omega
  rcases h with rfl | rfl <;> rfl
theorem atI_three {α : Type} {x y z : α} {d : Int} (h0 : 0 ≤ d) (h1 : d < 3) : atI [x, y, z] d = some (if d = 0 then x else if d = 1 then y else z) := by
  have h : d = 0 ∨ d = 1 ∨ d = 2 := by omega
  rcases h with rfl | rfl | rfl <;> rfl
def spWhole (K : PySem.W.Frag) : Sp := fun vs H Q _ => ∃ (x : V) (lo hi : Int) (n : String), vs = [x, .int lo, .int hi] ∧ Arg K H x n ∧ Q (.bl (wholeV x lo hi)) H
def spWord (K : PySem.W.Frag) : Sp := fun vs H Q _ => ∃ (x : V) (t : Addr) (ws : List Str) (n : String), vs = [x, .ref t] ∧ SqT K H t (ws.map V.str) ∧ Arg K H x n ∧ Q (.bl (wordV x ws)) H
def spIsInt (K : PySem.W.Frag) : Sp := fun vs H Q _ => ∃ (x : V) (n : String), vs = [x] ∧ Arg K H x n ∧ Q (.bl (isI x && !isB x)) H
/-- what a def hands back or raises, nothing written -/
def spRes (exc : String → Addr) (r : Except String V) (H : Hp) (Q : VK) (E : XK) : Prop := match r with
  | .ok v => Q v H
  | .error n => E (.ref (exc n)) none H
theorem ite_of {c : Prop} [Decidable c] {α : Type} {a b : α} (h : c) : (if c then a else b) = a := if_pos h
/-! ### tables: what its defs hand back or raise -/
def kindV (x : V) : Bool := wordV x ["rest", "ranges"]
def laneAt (k : V) (c m s : Int) : Int := if k = .str "rest" then m % c else m * c / s
def laneOf (k c m s : V) : Except String V :=
  if kindV k = false then .error "BadKind" else if wholeV c 1 (10 ^ 20) = false then .error "BadCount" else if wholeV m 0 (10 ^ 40) = false then .error "BadMark" else
  if wholeV s 1 (10 ^ 40) = false then .error "BadSize" else match c, m, s with
    | .int c, .int m, .int s => if s ≤ m then .error "BadMark" else .ok (.int (laneAt k c m s))
    | _, _, _ => .ok .non
def spChk (K : PySem.W.Frag) (exc : String → Addr) (good : V → Bool) (n : String) : Sp := fun vs H Q E => ∃ (x : V) (tn : String), vs = [x] ∧ Arg K H x tn ∧ spRes exc (if good x = false then .error n else .ok .non) H Q E
def spChkC (K : PySem.W.Frag) (exc : String → Addr) : Sp := fun vs H Q E => ∃ (x : V) (g : Int) (tn : String), vs = [x, .int g] ∧ (g = 10 ^ 20 ∨ g = 1000) ∧ Arg K H x tn ∧ spRes exc (if wholeV x 1 g = false then .error "BadCount" else .ok .non) H Q E
def spLaneAt : Sp := fun vs H Q _ => ∃ (k : Str) (c m s : Int), vs = [.str k, .int c, .int m, .int s] ∧ 1 ≤ c ∧ c ≤ 10 ^ 20 ∧ 0 ≤ m ∧ m < s ∧ s ≤ 10 ^ 40 ∧ Q (.int (laneAt (.str k) c m s)) H
def spLaneOf (K : PySem.W.Frag) (exc : String → Addr) : Sp := fun vs H Q E => ∃ (k c m s : V) (tk tc tm ts : String), vs = [k, c, m, s] ∧ Arg K H k tk ∧ Arg K H c tc ∧ Arg K H m tm ∧ Arg K H s ts ∧ spRes exc (laneOf k c m s) H Q E
theorem whole_int {x : V} {lo hi : Int} (h : wholeV x lo hi = true) : ∃ i, x = .int i ∧ lo ≤ i ∧ i ≤ hi := by
  cases x with
  | int i =>
    have h2 : (decide (lo ≤ i) && decide (i ≤ hi)) = true := h
    rw [Bool.and_eq_true] at h2
    exact ⟨i, rfl, of_decide_eq_true h2.1, of_decide_eq_true h2.2⟩
  | _ => exact nomatch h
theorem word_str {x : V} {ws : List Str} (h : wordV x ws = true) : ∃ s, x = .str s ∧ s ∈ ws := by
  cases x with
  | str s => exact ⟨s, rfl, of_decide_eq_true h⟩
  | _ => exact nomatch h
theorem whole_of {i lo hi : Int} (h : lo ≤ i) (h' : i ≤ hi) : wholeV (.int i) lo hi = true := by
  show (decide (lo ≤ i) && decide (i ≤ hi)) = true
  rw [decide_eq_true h, decide_eq_true h']; rfl
theorem fmt20 : (toString ((10 : Int) ^ 20) : Str).length = 21 := by decide +kernel
/-! ### lcm, and ranges of any ints -/
def rLcm : List V → Hp → VK → Prop := fun vs H Q => ∃ a b : Nat, vs = [.int (a : Int), .int (b : Int)] ∧ a < 10 ^ 40 ∧ b < 10 ^ 40 ∧ 0 < a ∧ Q (.int ((Nat.lcm a b : Nat) : Int)) H
theorem cr_lcm {X : Cx} : CallR X (.builtin "math.lcm") rLcm := by
  intro pins s σ H vs us Q I r h
  obtain ⟨a, b, rfl, ha, hb, h0, q⟩ := h
  obtain ⟨t, u, rfl⟩ := Vals.int2 r
  have la : (max 1 ((a : Int).natAbs)).log2 ≤ 199 := PySem.W.mg_log (Nat.lt_of_lt_of_le (by rw [Int.natAbs_natCast]; omega : max 1 ((a : Int).natAbs) < 10 ^ 40) (by decide))
  have lb : (max ((a : Int).natAbs) ((b : Int).natAbs)).log2 ≤ 199 := PySem.W.mg_log (Nat.lt_of_lt_of_le (by rw [Int.natAbs_natCast, Int.natAbs_natCast]; omega : max ((a : Int).natAbs) ((b : Int).natAbs) < 10 ^ 40) (by decide))
  have e : ((Nat.lcm 1 ((a : Int).natAbs)).lcm ((b : Int).natAbs) : Nat) = Nat.lcm a b := by rw [Int.natAbs_natCast, Int.natAbs_natCast, Nat.lcm_one_left]
  have ls : (((((Nat.lcm 1 ((a : Int).natAbs)).lcm ((b : Int).natAbs) : Nat)) : Int)).natAbs.log2 < bitsLine := by
    rw [e, Int.natAbs_natCast]
    have h1 : Nat.lcm a b ≤ a * b := by
      unfold Nat.lcm; exact Nat.div_le_self _ _
    have h2 : a * b ≤ 10 ^ 40 * 10 ^ 40 := Nat.mul_le_mul (Nat.le_of_lt ha) (Nat.le_of_lt hb)
    have h3 : (Nat.lcm a b).log2 ≤ 399 := PySem.W.mg_log (Nat.lt_of_le_of_lt (Nat.le_trans h1 h2) (by decide))
    exact Nat.lt_of_le_of_lt h3 (by decide)
  exact PySem.call_function_meets PySem.W.MGF.kind_lcm PySem.W.MGF.plain_lcm PySem.W.MGF.entry_lcm (PySem.W.MGF.args_lcm _ _) (PySem.W.mg_run_lcm _ t _ u (by omega) (by omega) ls).meets ⟨.int _, H, I.tok _, ⟨_, rfl⟩, (by rw [e]; exact q)⟩
theorem turn_long {P : Program} {w : World} {K : PySem.W.Frag} {tg : Expr} (c : Addr) (lo : Int) (n : Nat) : Turn P w K tg (Itr lo n) [c] c (fun i h => IsLongIter h c (lo + (i : Nat) * 1) ((n : Int) - (i : Nat)) 1) := by
  refine { mem := List.mem_singleton.mpr rfl, obj := ?o, keep := ?k, item := ?i, done := ?d, self := ?s }
  case o =>
    intro i h hc b hb
    cases List.mem_singleton.mp hb
    exact ⟨_, hc, fun v (z : Data.fields _ = Data.cell v) => nomatch z⟩
  case k => exact fun i h h' hc k => k c (List.mem_singleton.mpr rfl) _ hc
  case i =>
    rintro X rfl rfl rfl hh i pins s σ H E I hf hc hg
    have hq := hf c (List.mem_singleton.mpr rfl)
    obtain ⟨q0, q1, q2, q3, q4, q5⟩ := hq
    refine (Walks.longrange (prog := X.prog) (w := X.w) (I.ok.hd hh) c lo 1 n).item i s _ _ hg hc fun v h' tk hv hc' hk => ?_
    obtain ⟨t, rfl⟩ := hv
    have J : Inv X pins σ H { s with heap := h', toks := tk } := I.turned (fun b o hb e => hk b o (fun z => hb (List.mem_singleton.mp z)) e) q0 q1 q3 q4 q5
    exact ⟨_, rfl, go_of (s := { s with heap := h', toks := tk }) (n := "longrange_iterator") hc' rfl rfl (by decide) ⟨.int (lo + i), H, J, ⟨t, by rw [Int.mul_one]⟩, ⟨rfl, rfl⟩, hc', fun b hb => (hf b hb).1⟩⟩
  case d =>
    rintro X rfl rfl rfl hh i pins s σ H E I hf hc hg
    obtain ⟨q0, q1, q2, q3, q4, q5⟩ := hf c (List.mem_singleton.mpr rfl)
    have hni : n ≤ i := hg
    exact wpAny_pyNext_long_end (I.ok.hd hh) hc (by omega) fun h' k => ⟨rfl, I.turned (t' := s.toks) (fun b o hb e => k b o hb e) q0 q1 q3 q4 q5⟩
  case s => exact fun _ _ _ _ _ hc h => wpAny_pyIter_longiter hc h
theorem any_range {X : Cx} {tg : Expr} {pins : List (Addr × Obj)} {σ : L2.St} {H : Hp} {s : Shared} {R : It → Hp → Prop} {E : Value → Shared → Prop} {lo hi : Int} {t u v : Tok} {tk : Nat} (I : Inv X pins σ H s) (q : R (Itr lo (hi - lo).toNat) H) :
    wpAny (model X.prog X.w) X.A (pyIter (.ref s.heap.objs.size)) (PIE X pins σ tg R) E { s with heap := s.heap.push { cls := .type "range", data := .fields #[.int lo t, .int hi u, .int 1 v] }, toks := tk } := by
  have J : Inv X pins σ H { s with heap := s.heap.push { cls := .type "range", data := .fields #[.int lo t, .int hi u, .int 1 v] }, toks := tk } := I.kept fun b o e => Heap.get?_push_of_some _ e
  have ez : lo + ((0 : Nat) : Int) * 1 = lo := by omega
  have en : (((hi - lo).toNat : Nat) : Int) - ((0 : Nat) : Int) = Builtin.Range.rangeSize lo hi 1 := by
    rw [rangeSize_one]; split <;> omega
  cases hsm : Builtin.Range.small lo hi 1 with
  | true =>
    refine wpAny_pyIter_range (IsRange.new ..) hsm ?_
    refine ⟨_, [_], _, _, H, rfl, J.kept (t' := tk) fun b o e => Heap.get?_push_of_some _ e, turn_range _ lo (hi - lo).toNat, ?_, fun b hb => ?_, q⟩
    · show IsRangeIter _ _ (lo + ((0 : Nat) : Int) * 1) ((((hi - lo).toNat : Nat) : Int) - ((0 : Nat) : Int)) 1
      rw [ez, en]; exact Heap.get?_push_size _ rfl
    · cases List.mem_singleton.mp hb
      exact J.fpOk (Nat.le_refl _) (J.hok.fresh (Nat.le_refl _))
  | false =>
    refine wpAny_pyIter_longrange (IsRange.new ..) hsm ?_
    refine ⟨_, [_], _, _, H, rfl, J.kept (t' := tk) fun b o e => Heap.get?_push_of_some _ e, turn_long _ lo (hi - lo).toNat, ?_, fun b hb => ?_, q⟩
    · show IsLongIter _ _ (lo + ((0 : Nat) : Int) * 1) ((((hi - lo).toNat : Nat) : Int) - ((0 : Nat) : Int)) 1
      rw [ez, en]; exact Heap.get?_push_size _ rfl
    · cases List.mem_singleton.mp hb
      exact J.fpOk (Nat.le_refl _) (J.hok.fresh (Nat.le_refl _))
def iRngA (ta : TA) : TI := fun σ H R => ta σ H fun vs H1 => ∃ i j : Int, vs = [.int i, .int j] ∧ R (Itr i (j - i).toNat) H1
theorem pi_rangeA {X : Cx} {tg a b : Expr} {ta : TA} {p pos : Pos} (hg : Gl X "range") (hm : X.mg "range" = none) (ha : PA X [a, b] ta) (hs : starEach [a, b] X.env = [(false, eval a X.env), (false, eval b X.env)] := by rfl) (hs2 : starEach [b] X.env = [(false, eval b X.env)] := by rfl) :
    PI X tg (.Call (.Name "range" p) [a, b] [] pos) (iRngA ta) := by
  refine ⟨fun pins s σ H R I h => Call_ (ld_blt I hg hm boot_range (PyProof.Rows.callWith_type1 (thn (ha.run pos pins s σ H _ I h) fun us s1 hh => ?_) (by rw [hs, hs2]) (by rw [hs2]; rfl)))⟩
  obtain ⟨vs, H1, J, r1, i, j, e, q⟩ := hh
  subst e
  obtain ⟨t, t', rfl⟩ := Vals.int2 r1
  exact call_range_2 (any_range J q)
/-! ### marks that move -/
def lstart (l c s : Int) : Int := (l * s + c - 1) / c
def lcmI (a b : Int) : Int := ((Nat.lcm a.toNat b.toNat : Nat) : Int)
def keptRest (low high size : Int) : Int := size / lcmI low high * low + (if low < size % lcmI low high then low else size % lcmI low high)
def gapI (high low size : Int) (l : Int) : Int := if lstart (l + 1) high size - lstart l low size > 0 then lstart (l + 1) high size - lstart l low size else 0
def keptR (high low size : Int) : Nat → Int
  | 0 => 0
  | n + 1 => keptR high low size n + gapI high low size (n : Int)
inductive FirstR (low high size : Int) : V → Prop where
  | at (l : Int) (h1 : 1 ≤ l) (h2 : l ≤ low) (h3 : lstart l high size < lstart l low size) (h4 : ∀ j, 1 ≤ j → j < l → lstart j low size ≤ lstart j high size) : FirstR low high size (.int (lstart l high size))
  | no (h : ∀ j, 1 ≤ j → j ≤ low → lstart j low size ≤ lstart j high size) : FirstR low high size .non
def lowI (b a : Int) : Int := if a < b then a else b
def highI (b a : Int) : Int := if a > b then a else b
def countM (k : Str) (b a s : Int) : Int := if V.str k = .str "rest" then s - keptRest (lowI b a) (highI b a) s else s - keptR (highI b a) (lowI b a) s (lowI b a).toNat
def FirstM (k : Str) (b a s : Int) (r : V) : Prop := if V.str k = .str "ranges" then FirstR (lowI b a) (highI b a) s r else
  r = (if lowI b a < (if s < highI b a then s else highI b a) then .int (lowI b a) else .non)
def mostOf (k : V) : Int := if k = .str "rest" then 10 ^ 20 else 1000
def chkM (k b a s : V) : Option String :=
  if kindV k = false then some "BadKind" else if wholeV b 1 (mostOf k) = false then some "BadCount" else if wholeV a 1 (mostOf k) = false then some "BadCount" else if wholeV s 1 (10 ^ 40) = false then some "BadSize" else none
structure Mvd (ks : Str) (b a s : Int) : Prop where
  k : kindV (.str ks) = true
  b1 : 1 ≤ b
  b2 : b ≤ mostOf (.str ks)
  a1 : 1 ≤ a
  a2 : a ≤ mostOf (.str ks)
  s1 : 1 ≤ s
  s2 : s ≤ 10 ^ 40
theorem chkM_none {k b a s : V} (h : chkM k b a s = none) : ∃ ks bi ai si, k = .str ks ∧ b = .int bi ∧ a = .int ai ∧ s = .int si ∧ Mvd ks bi ai si := by
  unfold chkM at h
  cases e1 : kindV k with
  | false => rw [if_pos e1] at h; cases h
  | true =>
  rw [if_neg (by rw [e1]; decide)] at h
  cases e2 : wholeV b 1 (mostOf k) with
  | false => rw [if_pos e2] at h; cases h
  | true =>
  rw [if_neg (by rw [e2]; decide)] at h
  cases e3 : wholeV a 1 (mostOf k) with
  | false => rw [if_pos e3] at h; cases h
  | true =>
  rw [if_neg (by rw [e3]; decide)] at h
  cases e4 : wholeV s 1 (10 ^ 40) with
  | false => rw [if_pos e4] at h; cases h
  | true =>
  obtain ⟨bi, rfl, b1, b2⟩ := whole_int e2
  obtain ⟨ai, rfl, a1, a2⟩ := whole_int e3
  obtain ⟨si, rfl, s1, s2⟩ := whole_int e4
  obtain ⟨ks, rfl, _⟩ := word_str e1
  exact ⟨ks, bi, ai, si, rfl, rfl, rfl, rfl, e1, b1, b2, a1, a2, s1, s2⟩
theorem chkM_ok {ks : Str} {b a s : Int} (h : Mvd ks b a s) : chkM (.str ks) (.int b) (.int a) (.int s) = none := by
  unfold chkM
  rw [if_neg (by rw [h.k]; decide), if_neg (by rw [whole_of h.b1 h.b2]; decide), if_neg (by rw [whole_of h.a1 h.a2]; decide), if_neg (by rw [whole_of h.s1 h.s2]; decide)]
/-- one who asks: the error, or what comes of good ones -/
def spAskM (K : PySem.W.Frag) (exc : String → Addr) (G : Str → Int → Int → Int → V → Prop) : Sp := fun vs H Q E => ∃ (k b a s : V) (tk tb ta ts : String), vs = [k, b, a, s] ∧ Arg K H k tk ∧ Arg K H b tb ∧ Arg K H a ta ∧ Arg K H s ts ∧
  (∀ n, chkM k b a s = some n → E (.ref (exc n)) none H) ∧ (∀ ks bi ai si, k = .str ks → b = .int bi → a = .int ai → s = .int si → Mvd ks bi ai si → ∀ r, G ks bi ai si r → Q r H)
def spLstart : Sp := fun vs H Q _ => ∃ l c s : Int, vs = [.int l, .int c, .int s] ∧ 0 ≤ l ∧ l ≤ 2000 ∧ 1 ≤ c ∧ c ≤ 1000 ∧ 1 ≤ s ∧ s ≤ 10 ^ 40 ∧ Q (.int (lstart l c s)) H
def spKeptRest : Sp := fun vs H Q _ => ∃ l h s : Int, vs = [.int l, .int h, .int s] ∧ 1 ≤ l ∧ l ≤ 10 ^ 20 ∧ 1 ≤ h ∧ h ≤ 10 ^ 20 ∧ 1 ≤ s ∧ s ≤ 10 ^ 40 ∧ Q (.int (keptRest l h s)) H
def spKeptRanges : Sp := fun vs H Q _ => ∃ l h s : Int, vs = [.int l, .int h, .int s] ∧ 1 ≤ l ∧ l ≤ 1000 ∧ 1 ≤ h ∧ h ≤ 1000 ∧ 1 ≤ s ∧ s ≤ 10 ^ 40 ∧ Q (.int (keptR h l s l.toNat)) H
def spFirstRanges : Sp := fun vs H Q _ => ∃ l h s : Int, vs = [.int l, .int h, .int s] ∧ 1 ≤ l ∧ l ≤ 1000 ∧ 1 ≤ h ∧ h ≤ 1000 ∧ 1 ≤ s ∧ s ≤ 10 ^ 40 ∧ ∀ r, FirstR l h s r → Q r H
theorem lcmI_pos {a b : Int} (ha : 1 ≤ a) (hb : 1 ≤ b) : 1 ≤ lcmI a b := by
  unfold lcmI
  have : 0 < Nat.lcm a.toNat b.toNat := Nat.lcm_pos (by omega) (by omega)
  omega
theorem lcmI_le {a b : Int} (ha : 1 ≤ a) (hb : 1 ≤ b) (ha2 : a ≤ 10 ^ 20) (hb2 : b ≤ 10 ^ 20) : lcmI a b ≤ 10 ^ 40 := by
  unfold lcmI
  have h1 : Nat.lcm a.toNat b.toNat ≤ a.toNat * b.toNat := by
    unfold Nat.lcm; exact Nat.div_le_self _ _
  have h2 : a.toNat * b.toNat ≤ 10 ^ 20 * 10 ^ 20 := Nat.mul_le_mul (by omega) (by omega)
  have h3 : (10 : Nat) ^ 20 * 10 ^ 20 = 10 ^ 40 := by decide
  omega
theorem most_cases {ks : Str} (h : kindV (.str ks) = true) : (V.str ks = .str "rest" ∧ mostOf (.str ks) = 10 ^ 20) ∨ (V.str ks = .str "ranges" ∧ ¬ V.str ks = .str "rest" ∧ mostOf (.str ks) = 1000) := by
  obtain ⟨s, e, hs⟩ := word_str h
  cases e
  rcases List.mem_cons.mp hs with rfl | hs
  · exact .inl ⟨rfl, rfl⟩
  · rcases List.mem_cons.mp hs with rfl | hs
    · exact .inr ⟨rfl, by decide, rfl⟩
    · exact nomatch hs
/-! ### errors caught -/
theorem exm_pair {K : PySem.W.Frag} {A B : Addr} {b : Bool} (p : PySem.W.subIn K (.ref B) (.type "BaseException") = some true) (i : PySem.W.isClsIn K B = true) (t : PySem.W.typeIn K (.ref B) = some (.type "type")) (q : PySem.W.subIn K (.ref A) (.ref B) = some b) :
    PySem.W.exmOne K (.ref A) (.ref B) = some b := by
  have i' : (PySem.W.clsIn K B).isSome = true := i
  unfold PySem.W.exmOne PySem.W.kitCls
  rw [p]
  dsimp only
  rw [i', t]
  exact q
theorem kit_ve {K : PySem.W.Frag} {A : Addr} {b : Bool} (q : PySem.W.subIn K (.ref A) (.type "ValueError") = some b) : PySem.W.kitOne K (.ref A) (.type "ValueError") = some b := by
  have m : PySem.W.kitMeta "ValueError" = true := by decide +kernel
  unfold PySem.W.kitOne PySem.W.kitCls
  dsimp only
  rw [m]
  exact q
/-- isinstance of the error that a suite holds -/
def rIsG (K : PySem.W.Frag) (a : Addr) (cls : Value) (d : Option Addr) : List V → Hp → VK → Prop := fun xs H Q => ∃ D, cls = .ref D ∧ d = none ∧ ExcC K D ∧ rIsE K D a xs H Q
theorem call_isG {X : Cx} {a : Addr} {oe : Obj} {cls : Value} {d : Option Addr} {pn : List (Addr × Obj)} (hz : Zc cls d oe) (hf : ∃ vs, oe.data = .fields vs) : CallR (X.suite a ((a, oe) :: pn)) (.builtin "isinstance") (rIsG X.K a cls d) := by
  intro pins s σ H xs us Q I r h
  obtain ⟨D, rfl, rfl, C, h⟩ := h
  exact call_isE C hz hf pins s σ H xs us Q I r h
end Lc
namespace Lc
open PySem PySem.Spec PyProof.Rows L2 RZ
/-! ### data at hand -/
inductive Dt where
  | non | bl (b : Bool) | int (i : Int) | str (s : Str) | lst (xs : List Dt) | tup (z : Bool) (xs : List Dt) | dic
/-- a tuple held: z where it's known to have no dict of its own -/
inductive Tp (H : Hp) (a : Addr) : Bool → List V → Prop where
  | new {xs : List V} (e : H a = some (.tup xs)) : Tp H a false xs
  | bare {o : Obj} {xs : List V} (c : o.cls = .type "tuple") (d : o.dict = none) (e : H a = some (.frz o (.tup xs))) : Tp H a true xs
theorem Tp.sq {K : PySem.W.Frag} {H : Hp} {a : Addr} {z : Bool} {xs : List V} (h : Tp H a z xs) : SqT K H a xs := by
  cases h with
  | new e => exact SqT.of e
  | bare c d e => exact .inl (.inr ⟨_, e⟩)
theorem Tp.but {H H' : Hp} {a p : Addr} {z : Bool} {xs : List V} (b : But p H H') (ne : a ≠ p) (h : Tp H a z xs) : Tp H' a z xs := by
  cases h with
  | new e => exact .new (b _ _ ne e)
  | bare c d e => exact .bare c d (b _ _ ne e)
theorem Tp.same {H H' : Hp} {a : Addr} {z : Bool} {xs : List V} (k : Same H H') (h : Tp H a z xs) : Tp H' a z xs := by
  cases h with
  | new e => exact .new (k _ _ e)
  | bare c d e => exact .bare c d (k _ _ e)
mutual
inductive Ob (H : Hp) (p : Addr) : V → Dt → Prop where
  | non : Ob H p .non .non
  | bl (b : Bool) : Ob H p (.bl b) (.bl b)
  | int (i : Int) : Ob H p (.int i) (.int i)
  | str (s : Str) : Ob H p (.str s) (.str s)
  | lst {a : Addr} {xs : List V} {ds : List Dt} (e : H a = some (.lst xs)) (ne : a ≠ p) (all : Obs H p xs ds) : Ob H p (.ref a) (.lst ds)
  | tup {a : Addr} {z : Bool} {xs : List V} {ds : List Dt} (e : Tp H a z xs) (ne : a ≠ p) (all : Obs H p xs ds) : Ob H p (.ref a) (.tup z ds)
  | dic {a : Addr} (e : H a = some (.dK [])) (ne : a ≠ p) : Ob H p (.ref a) .dic
inductive Obs (H : Hp) (p : Addr) : List V → List Dt → Prop where
  | nil : Obs H p [] []
  | cons {v : V} {d : Dt} {vs : List V} {ds : List Dt} (h : Ob H p v d) (t : Obs H p vs ds) : Obs H p (v :: vs) (d :: ds)
end
mutual
theorem Ob.but {H H' : Hp} {p : Addr} (b : But p H H') : ∀ {v : V} {d : Dt}, Ob H p v d → Ob H' p v d
  | _, _, .non => .non
  | _, _, .bl b => .bl b
  | _, _, .int i => .int i
  | _, _, .str s => .str s
  | _, _, .lst e ne all => .lst (b _ _ ne e) ne (Obs.but b all)
  | _, _, .tup e ne all => .tup (e.but b ne) ne (Obs.but b all)
  | _, _, .dic e ne => .dic (b _ _ ne e) ne
theorem Obs.but {H H' : Hp} {p : Addr} (b : But p H H') : ∀ {vs : List V} {ds : List Dt}, Obs H p vs ds → Obs H' p vs ds
  | _, _, .nil => .nil
  | _, _, .cons h t => .cons (Ob.but b h) (Obs.but b t)
end
section
variable {H H' : Hp} {p : Addr} {v : V} {d : Dt} {vs : List V} {ds : List Dt}
theorem Ob.same (k : Same H H') (h : Ob H p v d) : Ob H' p v d := h.but fun c o _ e => k c o e
theorem Obs.same (k : Same H H') (h : Obs H p vs ds) : Obs H' p vs ds := h.but fun c o _ e => k c o e
theorem Obs.len : ∀ {vs : List V} {ds : List Dt}, Obs H p vs ds → vs.length = ds.length
  | _, _, .nil => rfl
  | _, _, .cons _ t => congrArg Nat.succ (Obs.len t)
theorem Obs.get : ∀ {vs : List V} {ds : List Dt} {i : Nat} {x : V}, Obs H p vs ds → vs[i]? = some x → ∃ d, ds[i]? = some d ∧ Ob H p x d
  | _, _, _, _, .nil, e => by simp at e
  | _, _, 0, _, .cons h _, e => by
    have e := Option.some.inj (show some _ = some _ from e)
    subst e; exact ⟨_, rfl, h⟩
  | _, _, i + 1, x, .cons _ t, e => Obs.get (i := i) t (by simpa using e)
theorem Obs.append : ∀ {vs ws : List V} {ds es : List Dt}, Obs H p vs ds → Obs H p ws es → Obs H p (vs ++ ws) (ds ++ es)
  | _, _, _, _, .nil, s => s
  | _, _, _, _, .cons h t, s => .cons h (Obs.append t s)
def tyName : Dt → String
  | .non => "NoneType" | .bl _ => "bool" | .int _ => "int" | .str _ => "str" | .lst _ => "list" | .tup _ _ => "tuple" | .dic => "dict"
theorem Ob.arg {K : PySem.W.Frag} (h : Ob H p v d) : Arg K H v (tyName d) := by
  cases h with
  | non => exact .non
  | bl b => exact .bl b
  | int i => exact .int i
  | str s => exact .str s
  | lst e _ _ => exact .lst e
  | tup e _ _ =>
    cases e with
    | new e => exact .tup e
    | bare c d e => exact .ftup e
  | dic e _ => exact .dK e
end
def isT : Dt → Bool
  | .tup _ _ => true | _ => false
def isL : Dt → Bool
  | .lst _ => true | _ => false
def isBd : Dt → Bool
  | .bl _ => true | _ => false
def isId : Dt → Bool
  | .bl _ => true | .int _ => true | _ => false
theorem kit_t {K : PySem.W.Frag} (d : Dt) : PySem.W.kitOne K (.type (tyName d)) (.type "tuple") = some (isT d) := by
  cases d <;> dsimp only [tyName, isT] <;> exact kit_ty (by decide +kernel)
theorem kit_l {K : PySem.W.Frag} (d : Dt) : PySem.W.kitOne K (.type (tyName d)) (.type "list") = some (isL d) := by
  cases d <;> dsimp only [tyName, isL] <;> exact kit_ty (by decide +kernel)
theorem kit_b {K : PySem.W.Frag} (d : Dt) : PySem.W.kitOne K (.type (tyName d)) (.type "bool") = some (isBd d) := by
  cases d <;> dsimp only [tyName, isBd] <;> exact kit_ty (by decide +kernel)
theorem kit_i {K : PySem.W.Frag} (d : Dt) : PySem.W.kitOne K (.type (tyName d)) (.type "int") = some (isId d) := by
  cases d <;> dsimp only [tyName, isId] <;> exact kit_ty (by decide +kernel)
/-! ### what a case, a house is -/
def wholeD (d : Dt) (lo hi : Int) : Bool := match d with
  | .int i => decide (lo ≤ i) && decide (i ≤ hi)
  | _ => false
def wordD (d : Dt) (ws : List Str) : Bool := match d with
  | .str s => decide (s ∈ ws)
  | _ => false
def rowD (d : Dt) (lo hi : Int) : Bool := match d with
  | .tup _ xs => decide (lo ≤ (xs.length : Int)) && decide ((xs.length : Int) ≤ hi)
  | _ => false
def itemsD : Dt → List Dt
  | .tup _ xs => xs
  | _ => []
def intD : Dt → Int
  | .int i => i
  | _ => 0
theorem whole_ob {H : Hp} {p : Addr} {v : V} {d : Dt} {lo hi : Int} (h : Ob H p v d) : wholeV v lo hi = wholeD d lo hi := by cases h <;> rfl
theorem word_ob {H : Hp} {p : Addr} {v : V} {d : Dt} {ws : List Str} (h : Ob H p v d) : wordV v ws = wordD d ws := by cases h <;> rfl
def countsD (d : Dt) : Bool := rowD d 2 3 && (itemsD d).all fun x => wholeD x 1 4
def courseD (d c : Dt) : Bool := rowD d ((itemsD c).length : Nat) ((itemsD c).length : Nat) && ((itemsD d).zip (itemsD c)).all fun q => wholeD q.1 0 (intD q.2 - 1)
def refusals : List Str := ["back", "lost"]
def notings : List Str := ["behind", "first", "with"]
def planWords : List Str := ["show", "tell", "agree", "close", "clear", "drain", "copy", "open", "drop"]
def schemeD (d : Dt) : Bool := match d with
  | .tup _ [a, b, r, n, s] => isBd a && isBd b && isBd s && (wordD r refusals && wordD n notings)
  | _ => false
def isShow : Dt → Bool
  | .str s => decide (s = "show")
  | _ => false
def shows (d : Dt) : Nat := (itemsD d).countP isShow
def planD (d : Dt) : Bool := rowD d 1 15 && ((itemsD d).all (fun x => wordD x planWords) && (decide (1 ≤ shows d) && decide (shows d ≤ 2)))
def frameD (s p c : Dt) : Bool := schemeD s && (planD p && (countsD c && decide ((itemsD c).length = shows p + 1)))
def caseD (d : Dt) : Bool := match d with
  | .tup _ [s, p, c, o] => frameD s p c && courseD o c
  | _ => false
def keysD (o l c : Dt) : Bool := (rowD o 1 3 && rowD l ((itemsD o).length : Nat) ((itemsD o).length : Nat)) && ((itemsD o).all (fun x => courseD x c) && (itemsD l).all fun x => wholeD x 1 3)
def houseD (d : Dt) : Bool := match d with
  | .tup _ [s, p, c, o, l, n] => frameD s p c && (keysD o l c && wholeD n 1 3)
  | _ => false
/-- the plan's tuple, where its words are words, has no dict -/
def fzPlan : Dt → Prop
  | .tup z xs => rowD (.tup z xs) 1 15 = true → (xs.all fun x => wordD x planWords) = true → z = true
  | _ => True
def fzCase : Dt → Prop
  | .tup _ [_, p, _, _] => fzPlan p
  | _ => True
def fzHouse : Dt → Prop
  | .tup _ [_, p, _, _, _, _] => fzPlan p
  | _ => True
/-! ### promises -/
def spRow : Sp := fun vs H Q _ => ∃ (p : Addr) (x : V) (d : Dt) (lo hi : Int), vs = [x, .int lo, .int hi] ∧ Ob H p x d ∧ Q (.bl (rowD d lo hi)) H
/-- a test of one object -/
def spIs (ok : Dt → Prop) (f : Dt → Bool) : Sp := fun vs H Q _ => ∃ (p : Addr) (x : V) (d : Dt), vs = [x] ∧ Ob H p x d ∧ ok d ∧ ∀ H', Same H H' → Q (.bl (f d)) H'
def spIs2 (ok : Dt → Prop) (f : Dt → Dt → Bool) : Sp := fun vs H Q _ => ∃ (p : Addr) (x y : V) (d e : Dt), vs = [x, y] ∧ Ob H p x d ∧ Ob H p y e ∧ ok e ∧ ∀ H', Same H H' → Q (.bl (f d e)) H'
def spIs3 (ok : Dt → Dt → Dt → Prop) (f : Dt → Dt → Dt → Bool) : Sp := fun vs H Q _ => ∃ (p : Addr) (x y z : V) (d e g : Dt), vs = [x, y, z] ∧ Ob H p x d ∧ Ob H p y e ∧ Ob H p z g ∧ ok d e g ∧ ∀ H', Same H H' → Q (.bl (f d e g)) H'
/-- all([test of x for x in t]), t a tuple -/
theorem all_comp {K : PySem.W.Frag} {a : Addr} {xs : List V} {ds : List Dt} {i0 j : Nat} {te : TE} {σ : L2.St} {H : Hp} {Q : VK} {p : Addr} (f : Dt → Bool) (hj : σ[j]? = some (some (.ref a))) {z : Bool} (hT : Tp H a z xs) (hO : Obs H p xs ds) (hl : xs.length ≤ 1000)
    (hte : ∀ (x : V) (d : Dt) (H' : Hp) (R : VK), Same H H' → Ob H' p x d → (∀ H2, Same H' H2 → R (.bl (f d)) H2) → te ((wipe σ [i0]).set i0 (some x)) H' R)
    (hw : ∀ x : V, wipe ((wipe σ [i0]).set i0 (some x)) [i0] = wipe σ [i0])
    (q : ∀ H', Same H H' → Q (.bl (ds.all f)) H') : tCB (rAll K) (tCons (tLc (iTup K (tVar j)) (gName i0) tYes te [i0]) tNil) σ H Q := by
  refine ⟨_, hj, a, rfl, ⟨_, hT.sq⟩, fun D hD => ?_⟩
  have len := hO.len
  refine lc_tup (K := K) (a := a) (xs := xs) (fun i H' => Same H H' ∧ H' D = some (.lst (((ds.take i).map f).map V.bl))) ⟨same_upd hD, upd_same⟩ (fun i H' _ h => (hT.same h.1).sq) ?_ ?_
  · rintro i x H' hx ⟨k, e⟩
    obtain ⟨d, hd, ob⟩ := (hO.same k).get hx
    refine ⟨hw x, hte x d H' _ k ob fun H2 k2 => ⟨_, k2 _ _ e, ?_, fun c o hc => ?_, ?_⟩⟩
    · rw [List.length_map, List.length_map, List.length_take]
      exact Nat.lt_of_le_of_lt (show _ ≤ 1000 by omega) (by decide)
    · rw [upd_ne (ne_of_none hc hD)]; exact k2 _ _ (k c o hc)
    · rw [upd_same, List.take_add_one, hd, List.map_append, List.map_append]; rfl
  · rintro H' ⟨k, e⟩
    rw [len, List.take_length] at e
    refine ⟨D, _, rfl, SqL.of e, ?_⟩
    have e2 : (ds.map f).all id = ds.all f := by rw [List.all_map]; rfl
    rw [e2]
    exact q H' k
/-- all([test of x, y for x, y in zip(t, u)]), t, u tuples -/
theorem all_zip {K : PySem.W.Frag} {a b : Addr} {xs ys : List V} {ds es : List Dt} {i1 i2 j1 j2 : Nat} {te : TE} {σ : L2.St} {H : Hp} {Q : VK} {p : Addr} (f : Dt × Dt → Bool) (hj : σ[j1]? = some (some (.ref a))) (hj2 : σ[j2]? = some (some (.ref b)))
    {z : Bool} (hT : Tp H a z xs) {z2 : Bool} (hU : Tp H b z2 ys) (hO : Obs H p xs ds) (hP : Obs H p ys es) (hl : xs.length ≤ 1000)
    (hte : ∀ (x y : V) (d e : Dt) (H' : Hp) (R : VK), Same H H' → Ob H' p x d → Ob H' p y e → e ∈ es → (∀ H2, Same H' H2 → R (.bl (f (d, e))) H2) → te (((wipe σ [i1, i2]).set i1 (some x)).set i2 (some y)) H' R)
    (hw : ∀ x y : V, wipe (((wipe σ [i1, i2]).set i1 (some x)).set i2 (some y)) [i1, i2] = wipe σ [i1, i2])
    (q : ∀ H', Same H H' → Q (.bl ((ds.zip es).all f)) H') : tCB (rAll K) (tCons (tLc (iZipA K (tCons (tVar j1) (tCons (tVar j2) tNil))) (gTup K 2 (gCons (gName i1) (gCons (gName i2) gNil))) tYes te [i1, i2]) tNil) σ H Q := by
  refine ⟨_, hj, _, hj2, a, b, xs, ys, rfl, .inr ⟨hT.sq, hU.sq, fun D hD => ?_⟩⟩
  have l1 := hO.len
  have l2 := hP.len
  have lz : (ds.zip es).length ≤ 1000 := by rw [List.length_zip]; omega
  refine ⟨fun i m H' => m = (ds.zip es).length - i ∧ i ≤ (ds.zip es).length ∧ Same H H' ∧ H' D = some (.lst ((((ds.zip es).take i).map f).map V.bl)), ⟨_, rfl, Nat.zero_le _, same_upd hD, upd_same⟩, ?_⟩
  rintro i m H' ⟨rfl, hi, k, e⟩
  by_cases lt : i < (ds.zip es).length
  · have lt2 := lt
    rw [List.length_zip] at lt2
    have gx : xs[i]? = some xs[i] := List.getElem?_eq_getElem (by omega)
    have gy : ys[i]? = some ys[i] := List.getElem?_eq_getElem (by omega)
    obtain ⟨d, gd, od⟩ := (hO.same k).get gx
    obtain ⟨e', ge, oe⟩ := (hP.same k).get gy
    refine .inr ⟨⟨xs, ys, _, _, (hT.same k).sq, (hU.same k).sq, gx, gy⟩, fun H2 => Same H H2 ∧ H2 D = some (.lst ((((ds.zip es).take (i + 1)).map f).map V.bl)), fun H2 h2 => ⟨_, by omega, rfl, lt, h2⟩, ?_⟩
    rintro v H2 ⟨t, x, y, rfl, ht, rfl, fx, fy⟩
    have ex : x = xs[i] := Option.some.inj ((fx _ ((hT.same k).sq)).symm.trans gx)
    have ey : y = ys[i] := Option.some.inj ((fy _ ((hU.same k).sq)).symm.trans gy)
    subst ex; subst ey
    have kt := same_upd (o := .tup [xs[i], ys[i]]) ht
    refine ⟨t, _, rfl, SqT.of upd_same, rfl, _, _, rfl, _, _, rfl, rfl, ?_⟩
    refine ⟨hw _ _, hte _ _ d e' _ _ (k.trans kt) (od.same kt) (oe.same kt) (List.mem_of_getElem? ge) fun H3 k3 => ⟨_, k3 _ _ (kt _ _ e), ?_, fun c o hc => ?_, ?_⟩⟩
    · rw [List.length_map, List.length_map, List.length_take]
      exact Nat.lt_of_le_of_lt (show _ ≤ 1000 by omega) (by decide)
    · rw [upd_ne (ne_of_none hc hD)]; exact k3 _ _ (kt _ _ (k c o hc))
    · have gz : (ds.zip es)[i]? = some (d, e') := by rw [List.getElem?_zip_eq_some]; exact ⟨gd, ge⟩
      rw [upd_same, List.take_add_one, gz, List.map_append, List.map_append]; rfl
  · have ei : i = (ds.zip es).length := by omega
    subst ei
    rw [List.take_length] at e
    have e2 : ((ds.zip es).map f).all id = (ds.zip es).all f := by rw [List.all_map]; rfl
    refine .inl ⟨⟨xs, ys, (hT.same k).sq, (hU.same k).sq, ?_⟩, D, _, rfl, SqL.of e, ?_⟩
    · rw [List.length_zip]; omega
    · rw [e2]; exact q H' k
/-! ### t.count(text) -/
def rTCnt (K : PySem.W.Frag) : V → List V → Hp → VK → Prop := fun x xs H Q => ∃ (p : Addr) (ws : List Str) (k : Str), x = .ref p ∧ xs = [.str k] ∧ SqT K H p (ws.map V.str) ∧ Q (.int (ws.countP fun y => decide (y = k) : Nat)) H
theorem dp_strs {K : PySem.W.Frag} {H : Hp} : ∀ ws : List Str, DpAll K H (ws.map V.str) (ws.map PyData.str)
  | [] => .nil
  | w :: r => .cons (.str w) (dp_strs r)
theorem plain_strs : ∀ ws : List Str, PyData.plainAll (ws.map PyData.str) = true
  | [] => rfl
  | w :: r => by
    rw [List.map_cons]
    show (PyData.plain (.str w) && PyData.plainAll (r.map PyData.str)) = true
    rw [plain_strs r]; rfl
theorem mt_tcount {X : Cx} (hu : X.A.units + 64 < cLine) : MtR X "tuple.count" (rTCnt X.K) := by
  intro pins s σ H x xs v us Q I rx rxs h
  obtain ⟨p, ws, k, rfl, rfl, hs, q⟩ := h
  cases rx
  obtain ⟨u, rfl, ru⟩ := rxs.one
  obtain ⟨its, rv, pt, _⟩ := I.tuple hs
  obtain ⟨as, rs⟩ := Dp.readsAll I (ws.map PyData.str) (ws.map V.str) its (dp_strs ws) rv
  obtain ⟨bs, rk⟩ := Dp.reads I (.str k) (.str k) u (.str k) ru
  have dk : PyData.depth (.str k) ≤ 1 := by simp [PyData.depth]
  refine PySem.SeqAt.count_tuple_data pt (by simpa using rs) rk (plain_strs ws) rfl (by have := Nat.min_le_right (PyData.depthAll (ws.map PyData.str)) (PyData.depth (.str k)); omega) ⟨.int _, H, I.tok _, ⟨_, rfl⟩, ?_⟩
  have e : (ws.map PyData.str).countP (fun y => PyData.eqv y (.str k)) = ws.countP fun y => decide (y = k) := by
    rw [List.countP_map]
    congr 1
  rw [e]; exact q
/-! ### tuples laid, known to have no dict -/
section
variable {X : Cx} {es : List Expr} {t : TA} {pos : Pos}
/-- (e, ..) -/
def tTupF (t : TA) : TE := fun σ H Q => t σ H fun xs H1 => xs.length ≤ sizeLine ∧ ∀ p H2, H1 p = none → Same H1 H2 → Tp H2 p true xs → (∀ b, H2 b = none → H1 b = none) → Q (.ref p) H2
theorem fz_same {H : Hp} {p : Addr} {u : HO} (h : H p = none) : ∀ b, (upd H p u) b = none → H b = none := fun b e => by
  by_cases z : b = p
  · subst z; exact h
  · rw [upd_ne z] at e; exact e
theorem pe_tupF {c} (h : PA X es t) : PE X (.Tuple es c pos) (tTupF t) := by
  refine ⟨fun pins s σ H Q I hq => ?_⟩
  refine wpAny_Tuple_spliced (thn (h.run pos pins s σ H _ I hq) fun us s1 ⟨xs, H1, I1, r, z, q⟩ => ⟨by rw [← r.length]; exact z, ?_⟩)
  have hf : H1 s1.heap.objs.size = none := I1.hok.fresh (Nat.le_refl _)
  refine ⟨.ref s1.heap.objs.size, _, I1.laid (t' := s1.toks) (o := .frz { cls := .type "tuple", data := .seq us.toArray } (.tup xs)) (fun b u e => Heap.get?_push_of_some _ e) (Nat.le_refl _) ?_, rfl, q _ _ hf (same_upd hf) (.bare rfl rfl upd_same) (fz_same hf)⟩
  exact ⟨Heap.get?_push_size _ rfl, z, us, r, ⟨_, Heap.get?_push_size _ rfl, rfl, _, rfl⟩⟩
/-- tuple(a list) -/
def tTupOfF (K : PySem.W.Frag) (ta : TE) : TE := fun σ H Q => ta σ H fun x H1 => ∃ a xs, x = .ref a ∧ SqL K H1 a xs ∧ ∀ p H2, H1 p = none → Same H1 H2 → Tp H2 p true xs → (∀ b, H2 b = none → H1 b = none) → Q (.ref p) H2
theorem pe_tupleOfF {a : Expr} {ta : TE} {p pos : Pos} (hg : Gl X "tuple") (hm : X.mg "tuple" = none) (ha : PE X a ta) (na : starEach [a] X.env = (false, eval a X.env) :: starEach [] X.env := by rfl) : PE X (.Call (.Name "tuple" p) [a] [] pos) (tTupOfF X.K ta) := by
  refine ⟨fun pins s σ H Q I h => ?_⟩
  refine Call_ (ld_blt I hg hm boot_tuple (PyProof.Rows.callWith_type1 (one_arg ha I h (fun v s2 x H2 I2 r q => ?_) na) na))
  obtain ⟨b, xs, rfl, hs, q⟩ := q
  obtain rfl : v = .ref b := r
  obtain ⟨its, rv, pl, hz⟩ := I2.list hs
  refine call_tuple_list pl.isList (fun h' hk => ?_) (by rw [List.size_toArray, ← rv.length]; exact hz)
  have I3 : Inv X pins σ H2 { s2 with heap := h' } := I2.kept (t' := s2.toks) hk
  have hf : H2 h'.objs.size = none := I3.hok.fresh (Nat.le_refl _)
  refine ⟨.ref h'.objs.size, _, I3.laid (t' := s2.toks) (o := .frz { cls := .type "tuple", data := .seq its.toArray } (.tup xs)) (fun b o e => Heap.get?_push_of_some _ e) (Nat.le_refl _) ?_, rfl, q _ _ hf (same_upd hf) (.bare rfl rfl upd_same) (fz_same hf)⟩
  exact ⟨Heap.get?_push_size _ rfl, hz, its, rv, IsTup.new _ _⟩
/-- t + u -/
def rCatF (K : PySem.W.Frag) : R2 := fun x y H Q => ∃ a b xs ys, x = .ref a ∧ y = .ref b ∧ SqT K H a xs ∧ SqT K H b ys ∧ xs.length + ys.length ≤ sizeLine ∧
  (xs = [] → Q (.ref b) H) ∧ (xs ≠ [] → ys = [] → Q (.ref a) H) ∧ (xs ≠ [] → ys ≠ [] → ∀ p H2, H p = none → Same H H2 → Tp H2 p true (xs ++ ys) → (∀ b, H2 b = none → H b = none) → Q (.ref p) H2)
theorem op_catF : OpR X (binaryOp .Add) (rCatF X.K) := by
  intro pins s σ H x y v u Q I rx ry h
  obtain ⟨a, b, xs, ys, rfl, rfl, ha, hb, hz, q0, q1, q2⟩ := h
  cases rx
  cases ry
  obtain ⟨its, r1, p1, _⟩ := I.tuple ha
  obtain ⟨its2, r2, p2, _⟩ := I.tuple hb
  by_cases hx : xs = []
  · subst hx
    cases r1
    exact cat_tup0 p1 p2 ⟨.ref b, H, I, rfl, q0 rfl⟩
  · refine HT.cat_tup p1 p2 (fun z => hx (r1.nil_iff.mp z)) (fun z => ⟨.ref a, H, I, rfl, q1 hx (r2.nil_iff.mp z)⟩) (fun z => ?_) (by rw [← r1.length, ← r2.length]; exact hz)
    have hf : H s.heap.objs.size = none := I.hok.fresh (Nat.le_refl _)
    refine ⟨.ref s.heap.objs.size, _, I.laid (t' := s.toks) (o := .frz { cls := .type "tuple", data := .seq (its ++ its2).toArray } (.tup (xs ++ ys))) (fun b ob q => Heap.get?_push_of_some _ q) (Nat.le_refl _) ?_, rfl, q2 hx (fun w => z (r2.nil_iff.mpr w)) _ _ hf (same_upd hf) (.bare rfl rfl upd_same) (fz_same hf)⟩
    exact ⟨Heap.get?_push_size _ rfl, by rw [List.length_append]; exact hz, _, r1.append r2, IsTup.new _ _⟩
end
/-! ### t * k, k at least one -/
section
open PySem.AutoSeq1 (wpAny_loadPart')
theorem tuple_mul1 (l : Addr) (items : Array Value) (n : Nat) (dd : Option Addr) (sl : Array (Option Value)) (u : Tok) :
    Meets (Builtin.«tuple.__mul__» ⟨[.ref l, .int 1 u], []⟩) (fun _ R s => s.heap.get? l = some { cls := .type "tuple", dict := dd, data := .seq items n, slots := sl } ∧ R (.ok (.ret (Value.ref l))) s) :=
  .of_wp fun prog w A R s h => by
    obtain ⟨hp, g, d, tk, os⟩ := s
    obtain ⟨hl, h⟩ := h
    have f1 := AutoSeq1.idx_int
    have c0 : (decide ((1 : Int) < -(2 ^ 63)) || decide ((1 : Int) ≥ 2 ^ 63)) = false := by decide
    have c1 : (items.isEmpty || (1 : Int) == 1) = true := by simp
    wp_walk using wpAny_loadPart' hl
    repeat (first
      | (refine wpAny_ite_false (decide_eq_false (by rw [c0]; exact Bool.false_ne_true)) ?_; wp_walk using wpAny_loadPart' hl)
      | (refine wpAny_ite_true (decide_eq_true c1) ?_; wp_walk using wpAny_loadPart' hl))
    exact ⟨_, rfl, h⟩
def rRepF (K : PySem.W.Frag) : R2 := fun x y H Q => ∃ l k xs, x = .ref l ∧ y = .int k ∧ SqT K H l xs ∧ xs ≠ [] ∧ 1 ≤ k ∧ k ≤ 1000 ∧ xs.length ≤ 1000 ∧ (k = 1 → Q (.ref l) H) ∧ (2 ≤ k → ∀ p, H p = none → Q (.ref p) (upd H p (.tup (List.replicate k.toNat xs).flatten)))
theorem op_repF {X : Cx} : OpR X (binaryOp .Mult) (rRepF X.K) := by
  intro pins s σ H x y v u Q I rx ry h
  obtain ⟨l, k, xs, rfl, rfl, hT, hne, h1, h2, hz, q1, q2⟩ := h
  by_cases hk : k = 1
  · subst hk
    cases rx
    obtain ⟨t, rfl⟩ := ry
    obtain ⟨its, r, ⟨⟨cls, dd, data, sl⟩, ho, hc, n, hd⟩, hs⟩ := I.tuple hT
    simp only at hc hd
    subst hc hd
    refine wpAny_binaryOp_repeat_ref (T := "tuple") (U := "int") (by decide) ⟨_, ho, rfl⟩ (fun s' => typeIs_int s' 1 t) noFill_tuple_mul PySem.F.fills_int_mul PySem.F.slot_int_rmul repeat_tuple PySem.F.slot_int_index.lookup
      (call_meets PySem.F.slot_int_rmul (typeIs_int s 1 t) PySem.F.entry_int_rmul (PySem.F.args_int_rmul_2 _ _) (int_rmul_tuple 1 t l its.toArray n dd sl)
        ⟨ho, rfl, ⟨_, ho, rfl⟩, call_meets PySem.F.slot_tuple_mul ⟨_, ho, rfl⟩ PySem.F.entry_tuple_mul (PySem.F.args_tuple_mul_2 _ _) (tuple_mul1 l its.toArray n dd sl t) ⟨ho, ?_⟩⟩)
    exact ⟨.ref l, H, I, rfl, q1 rfl⟩
  · exact op_repT pins s σ H _ _ v u Q I rx ry ⟨l, k, xs, rfl, rfl, hT, hne, by omega, h2, hz, q2 (by omega)⟩
end
/-! ### a method of a tuple that has no dict -/
def tBMF (r : V → List V → Hp → VK → Prop) (to : TE) (t : TA) : TE := fun σ H Q => to σ H fun x H1 => (∃ a xs, x = .ref a ∧ Tp H1 a true xs) ∧ t σ H1 fun xs H2 => r x xs H2 Q
section
variable {X : Cx} {o e : Expr} {es : List Expr} {to : TE} {t : TA} {name : Str} {apos cpos : Pos} {id : String} {r : V → List V → Hp → VK → Prop}
theorem pe_bmF (pa : PlainAttrs "tuple") (slot : Slot "tuple" name id) (hty : typeOf (.builtin id) = pure (.type "method_descriptor")) (hm : MtR X id r) (ho : PE X o to) (ha : PA X (e :: es) t)
    (hbase : attributeBase o name X.env (eval o X.env) = eval o X.env := by rfl)
    (hfew : ((backTo cpos (starEach (e :: es) X.env)).all (fun x => !x.1) && (backToKw cpos (keywordEach [] X.env)).all (fun x => x.1.isSome)
      && decide ((e :: es).length + ([] : List Keyword).length + (if ([] : List Keyword).isEmpty then 0 else 1) < 30)) = true := by rfl)
    (hline : (apos.endLine == cpos.line) = true := by rfl) (hs : starEach (e :: es) X.env = (false, eval e X.env) :: starEach es X.env := by rfl) (hplain : (backTo cpos (starEach es X.env)).any (·.1) = false := by rfl) :
    PE X (.Call (.Attribute o name apos) (e :: es) [] cpos) (tBMF r to t) := by
  refine ⟨fun pins s σ H Q I h => ?_⟩
  refine wpAny_Call_method_late hbase hfew hline rfl (thn (ho.run pins s σ H _ I h) fun v s1 ⟨x, H1, I1, r1, ty, q1⟩ => ?_)
  have hh : s1.TypeIs v "tuple" ∧ ∀ a, v = .ref a → ∃ ob, s1.heap.get? a = some ob ∧ ob.dict = none := by
    obtain ⟨a, xs, rfl, tp⟩ := ty
    obtain rfl : v = .ref a := r1
    cases tp with
    | @bare ob _ c d e =>
      obtain ⟨g, _⟩ := I1.hok a _ e
      exact ⟨⟨ob, g, c⟩, fun b z => by cases z; exact ⟨ob, g, d⟩⟩
  obtain ⟨h1, h2⟩ := hh
  refine ⟨"tuple", id, pa, slot, hty, h1, h2, ?_⟩
  have hA := ha.run cpos pins s1 σ H1 _ I1 q1
  rw [hs] at hA ⊢
  refine Calls.callWith_builtin (by show (false || (backTo cpos (starEach es X.env)).any (·.1)) = false; rw [hplain] <;> rfl) (Calls.evalArgs_plain ?_)
  exact thn hA fun us s2 ⟨vs, H2, I2, r2, q2⟩ => hm pins s2 σ H2 x vs v us Q I2 r1 r2 q2
end
end Lc
namespace LcS
open PySem PySem.Spec PyProof.Rows L2
section
variable {P : Program} {w : World} {A : Around} {E : Value → Shared → Prop} {s : Shared}
/-- a set just made -/
abbrev nul (w : World) : Obj := { cls := .type "set", dict := none, data := .set #[] 0 (.fresh 0 0 (!w.params.followText "set-order")) }
set_option maxHeartbeats 8000000 in
theorem set_of_list {l : Addr} {its : Array Value} (ns : List Int) {Q : Value → Shared → Prop} (hd : A.handled = none) (hl : s.heap.IsList l its) (ar : IntsAre its.toList ns) (room : ns.length + 1 < scanBound)
    (fin : ∀ (g : Heap) (tk c : Nat), SetR w g s.heap.objs.size (fun j => decide (j ∈ ns)) c → c ≤ ns.length → (∀ b o, s.heap.get? b = some o → g.get? b = some o) → Q (.ref s.heap.objs.size) { s with heap := g, toks := tk }) :
    wpAny (model P w) A (call (.type "set") [.ref l]) Q E s := by
  have size : its.size = ns.length := (Array.length_toList ▸ IntsAre.length ar)
  obtain ⟨mc, mt, mro⟩ := F.called_set.mro
  have made := F.called_set.made
  have sub := F.called_set.sub
  have notT := F.called_set.notType
  have can := F.called_set.canCreate
  have chk := F.typeCall_set_1 (.ref l)
  refine wpAny_call (codeAny_of_tree (show wpAny _ _ (callAny (.type "set") _) _ _ _ from wpAny_pure ⟨Code.quiet_builtin _ (by decide +kernel), codeAny_builtin F.entry_type_call ?_⟩))
  rw [Around.under_plain (weight_type_call_type "set" [.ref l] []) rfl]
  repeat (any_goals (first | assumption | wp_step))
  refine codeAny_mono (code_set_led1 (.ref l) (E := E) (Q₁ := fun v z => v = .ref s.heap.objs.size ∧ z = { s with heap := s.heap.push (nul w) }) ⟨rfl, rfl⟩) ?_
  rintro (x | fl) z hz
  · exact hz
  cases fl <;> try exact hz.elim
  rename_i v
  obtain ⟨rfl, rfl⟩ := hz
  have at0 : (s.heap.push (nul w)).get? s.heap.objs.size = some (nul w) := Heap.get?_push_size _ rfl
  have ty0 : Shared.TypeIs { s with heap := s.heap.push (nul w) } (.ref s.heap.objs.size) "set" := ⟨_, at0, rfl⟩
  have il := F.called_set.init.lookup
  have ib := F.called_set.init.bind (.ref s.heap.objs.size)
  repeat (any_goals (first | assumption | wp_step))
  refine codeAny_mono (codeAny_call_builtin (R := wants (fun r z => r = .none ∧ ∃ g tk c, z = { s with heap := g, toks := tk } ∧ SetR w g s.heap.objs.size (fun j => decide (j ∈ ns)) c ∧ c ≤ ns.length ∧ (∀ b o, s.heap.get? b = some o → g.get? b = some o)) E)
    F.called_set.init.plain F.entry_set_init (check_set_init_1 ty0 ?_)) ?_
  · obtain ⟨⟨oc, od, odata, osl⟩, hol, hcl, nl, hdl⟩ := hl
    simp only at hcl hdl
    subst hcl; subst hdl
    have at1 : (s.heap.push (nul w)).get? l = some { cls := .type "list", dict := od, data := .seq its nl, slots := osl } := Heap.get?_push_of_some _ hol
    have s1 := F.sub_list_set
    have s2 := F.sub_list_frozenset
    have nd : (Value.type "list" == Value.type "dict") = false := by decide
    have hl1 : (s.heap.push (nul w)).IsList l its := ⟨_, at1, rfl, nl, rfl⟩
    unfold Builtin.«set.__init__» noKeywords Builtin.Frozenset.updateFrom
    generalize eI : pyIter = PI
    wp_walk
    subst eI
    refine wpAny_pyIter_list hl1 (wpAny_bind (wpAny_runValue ?_))
    have ll : l < s.heap.objs.size := Heap.lt_size hol
    have sz : (s.heap.push (nul w)).objs.size = s.heap.objs.size + 1 := Heap.size_push ..
    have hd3 : A.in1.in1.in1.handled = none := by simp [hd]
    have lI : l ≠ (s.heap.push (nul w)).objs.size := fun e => by rw [e, sz] at ll; exact absurd ll (by exact fun z => Nat.lt_irrefl _ (Nat.lt_of_succ_lt z))
    have out : s.heap.objs.size ∉ [(s.heap.push (nul w)).objs.size, l] := by
      rw [sz]
      simp only [List.mem_cons, List.not_mem_nil, or_false, not_or]
      exact ⟨fun z => Nat.succ_ne_self _ z.symm, fun z => Nat.lt_irrefl _ (z ▸ ll)⟩
    have val : ∀ (i : Nat) (v : Value), its[i]? = some v → ∃ k t, ns[i]? = some k ∧ v = .int k t := fun i v hv => by
      have hi : i < ns.length := size ▸ (Array.getElem?_eq_some_iff.mp hv).1
      obtain ⟨t, rfl⟩ := PyProof.Rows.IntsAre.int_at ar i v (by rw [Array.getElem?_toList]; exact hv)
      exact ⟨ns[i], t, List.getElem?_eq_getElem hi, by rw [List.getD_eq_getElem?_getD, List.getElem?_eq_getElem hi] <;> rfl⟩
    refine set_update_ints ((Walks.list hd3 _ l lI its).toS) s.heap.objs.size out ns size room val (its.size - 0) 0 _ (by omega) (Nat.zero_le _) ⟨⟨_, Heap.get?_push_size _ rfl, rfl, rfl⟩, (hl1.push _)⟩ ?_ ?_
    · exact ⟨0, Nat.le_refl 0, setR_new_at (Heap.get?_push_of_some _ at0)⟩
    · rintro ⟨g, g2, d2, tk, os2⟩ c mv hc R
      have e1 : g2 = s.gens := mv.gens
      have e2 : d2 = s.drawn := mv.drawn
      have e3 : os2 = s.os := mv.os
      subst e1 e2 e3
      refine wpAny_pure (show wpAny _ _ (ret Value.none) _ _ _ from wpAny_pure ⟨rfl, g, tk, c, rfl, R, size ▸ hc, fun b o e => ?_⟩)
      have bl := Heap.lt_size e
      exact mv.heap b o (by rw [sz]; simp only [List.mem_cons, List.not_mem_nil, or_false, not_or]; exact ⟨fun z => Nat.lt_irrefl _ (z ▸ bl), fun z => Nat.lt_irrefl _ (Nat.lt_of_succ_lt (z ▸ bl))⟩) (Heap.get?_push_of_some _ (Heap.get?_push_of_some _ e))
  · rintro (x | fl) z hz
    · exact hz
    cases fl <;> try exact hz.elim
    obtain ⟨rfl, g, tk, c, rfl, R, hc, k⟩ := hz
    repeat (any_goals (first | assumption | wp_step))
    exact fin _ _ _ R hc k
end
/-- set(xs), xs a list of ints -/
def rSetL (K : PySem.W.Frag) (w : World) : List V → Hp → VK → Prop := fun xs H Q => ∃ (l : Addr) (ns : List Int), xs = [.ref l] ∧ SqL K H l (ns.map V.int) ∧ ns.length ≤ 2000 ∧
  ∀ p c, H p = none → c ≤ ns.length → Q (.ref p) (upd H p (SetO w p (fun j => decide (j ∈ ns)) c))
theorem cr_setL {X : Cx} (hc : X.calm = true) : CallR X (.type "set") (rSetL X.K X.w) := by
  intro pins s σ H xs us Q I r h
  obtain ⟨l, ns, rfl, hq, hn, q⟩ := h
  rw [Vals.ref1 r]
  obtain ⟨its, rv, pl, _⟩ := I.list hq
  refine set_of_list ns (I.ok.hd hc) pl.isList (by simpa using rv.ints) (by unfold scanBound; omega) fun g tk c R hcn k => ?_
  exact ⟨.ref _, _, I.laid (t' := tk) k (Nat.le_refl _) (setO_new R), rfl, q _ c (I.hok.fresh (Nat.le_refl _)) hcn⟩
end LcS
namespace LcC
open PySem PySem.Spec PyProof.Rows L2
/-! ### {e for a in xs .. for b in ys ..}, e an int -/
section
variable {pr : Program} {w : World} {A : Around} {R : Result → Shared → Prop} {s : Shared} {el ta ia tb ib : Expr} {ca cb : List Expr} {sc : Scope} {ps : Pos} {it D : Value} {v : Env}
abbrev two (el ta ia : Expr) (ca : List Expr) (tb ib : Expr) (cb : List Expr) (sc : Scope) (ps : Pos) : Expr := .SetComp el [⟨ta, ia, ca, 0⟩, ⟨tb, ib, cb, 0⟩] sc ps
/-- where an error goes -/
abbrev Out (pr : Program) (w : World) (A : Around) (v : Env) (R : Result → Shared → Prop) : Value → Shared → Prop := notedBy (model pr w) A v fun e z => R (.error e) z
/-- a step, with the errors of a turn -/
abbrev St1 {α : Type} (pr : Program) (w : World) (A : Around) (Z : Value → Shared → Prop) (t : Sem α) (s : Shared) (k : α → Shared → Prop) : Prop := wpAny (model pr w) A t k Z s
/-- one turn of a clause: its item, its store, its tests -/
def Turn (pr : Program) (w : World) (A : Around) (v : Env) (Z : Value → Shared → Prop) (tg : Expr) (cs : List Expr) (it : Value) (done next go : Shared → Prop) (s : Shared) : Prop :=
  St1 pr w A Z (pyNext it) s fun r s1 => match r with
    | none => done s1
    | some x => St1 pr w A Z (letOwnedTupleGo tg it x) s1 fun _ s2 => St1 pr w A Z (assign tg v x) s2 fun _ s3 =>
      St1 pr w A Z (forIn cs true fun c r => if r = true then do let b ← isTrue c v (eval c v); pure (ForInStep.yield b) else pure (ForInStep.yield r)) s3 fun b s4 => if b = true then go s4 else next s4
theorem outer (hs : ∀ x, foldedSetIterable ib v x = pure x) (I : Nat → Shared → Prop)
    (turn : ∀ n s, I n s → Turn pr w A v (Out pr w A v R) ta ca it (fun z => R (.ok .next) z) (fun z => ∃ m, m < n ∧ I m z)
      (fun z => St1 pr w A (Out pr w A v R) (eval ib v) z fun x z2 => St1 pr w A (Out pr w A v R) (pyIter x) z2 fun j z3 =>
        codeAny (model pr w) A (.compStart (two el ta ia ca tb ib cb sc ps) 1 j D v) (fun r y => match r with | .ok _ => ∃ m, m < n ∧ I m y | .error _ => False) z3) s)
    (n : Nat) (h : I n s) : codeAny (model pr w) A (.compLoop (two el ta ia ca tb ib cb sc ps) 0 it D v) R s := by
  refine codeAny_loop rfl I (fun n z hz => ?_) n h
  refine wpAny_noted (env := v) ?_
  refine wpAny_bind (m := standAt ia.pos) (wpAny_standAt ?_)
  refine wpAny_bind (m := pyNext it) (wpAny_mono (turn n z hz) (fun r z1 h1 => ?_) fun _ _ q => q)
  cases r with
  | none => exact wpAny_pure h1
  | some x =>
    refine wpAny_bind (m := letOwnedTupleGo ta it x) (wpAny_mono h1 (fun _ z2 h2 => ?_) fun _ _ q => q)
    refine wpAny_bind (m := assign ta v x) (wpAny_mono h2 (fun _ z3 h3 => wpAny_bind (wpAny_mono h3 (fun b z4 h4 => ?_) fun _ _ q => q)) fun _ _ q => q)
    cases b with
    | false => exact wpAny_pure ⟨rfl, h4⟩
    | true =>
      refine wpAny_bind (m := eval ib v) (wpAny_mono h4 (fun y z5 h5 => ?_) fun _ _ q => q)
      refine wpAny_bind (m := standAt ib.pos) (wpAny_standAt ?_)
      refine wpAny_bind (wpAny_of_eq (hs y) (wpAny_bind (wpAny_holding (wpAny_mono h5 (fun j z6 h6 => wpAny_bind (wpAny_runOwn ?_)) fun _ _ q => q))))
      rw [Around.mark_none]
      refine codeAny_mono h6 fun r z7 h7 => ?_
      cases r with
      | ok f => first | exact wpAny_pure ⟨rfl, h7⟩ | exact wpAny_bind (wpAny_pure (wpAny_pure ⟨rfl, h7⟩))
      | error e => exact False.elim h7
theorem inner (I : Nat → Shared → Prop)
    (turn : ∀ n s, I n s → Turn pr w A v (Out pr w A v R) tb cb it (fun z => R (.ok .next) z) (fun z => ∃ m, m < n ∧ I m z)
      (fun z => St1 pr w A (Out pr w A v R) (eval el v) z fun x z2 => St1 pr w A (Out pr w A v R) (call (.builtin "set.add") [D, x]) z2 fun _ z3 => ∃ m, m < n ∧ I m z3) s)
    (n : Nat) (h : I n s) : codeAny (model pr w) A (.compLoop (two el ta ia ca tb ib cb sc ps) 1 it D v) R s := by
  refine codeAny_loop rfl I (fun n z hz => ?_) n h
  refine wpAny_noted (env := v) ?_
  refine wpAny_bind (m := standAt ib.pos) (wpAny_standAt ?_)
  refine wpAny_bind (m := pyNext it) (wpAny_mono (turn n z hz) (fun r z1 h1 => ?_) fun _ _ q => q)
  cases r with
  | none => exact wpAny_pure h1
  | some x =>
    refine wpAny_bind (m := letOwnedTupleGo tb it x) (wpAny_mono h1 (fun _ z2 h2 => ?_) fun _ _ q => q)
    refine wpAny_bind (m := assign tb v x) (wpAny_mono h2 (fun _ z3 h3 => wpAny_bind (wpAny_mono h3 (fun b z4 h4 => ?_) fun _ _ q => q)) fun _ _ q => q)
    cases b with
    | false => exact wpAny_pure ⟨rfl, h4⟩
    | true => exact wpAny_bind (wpAny_bind (wpAny_mono h4 (fun y z5 h5 => wpAny_bind (wpAny_standAt (wpAny_bind (wpAny_mono h5 (fun _ z6 h6 => wpAny_pure (wpAny_pure ⟨rfl, h6⟩)) fun _ _ q => q)))) fun _ _ q => q))
theorem start1 (h0 : codeAny (model pr w) A (.compLoop (two el ta ia ca tb ib cb sc ps) 1 it D v) R s)
    (h : St1 pr w A (Out pr w A v R) (pyIter it) s fun j z => codeAny (model pr w) A (.compLoop (two el ta ia ca tb ib cb sc ps) 1 j D v) R z) :
    codeAny (model pr w) A (.compStart (two el ta ia ca tb ib cb sc ps) 1 it D v) R s := by
  refine codeAny_of_tree (wpAny_notedAt (env := v) ?_)
  unfold compStart
  show wpAny _ _ (ask >>= _) _ _ s
  refine wpAny_bind (wpAny_askSetting (wpAny_ite ?_))
  split
  · first | exact wpAny_bind (wpAny_pure (wpAny_pure ⟨rfl, h0⟩)) | exact wpAny_pure ⟨rfl, h0⟩
  · first
      | exact wpAny_bind (wpAny_rule (wpAny_bind (wpAny_standAt (wpAny_bind (wpAny_mono h (fun j z q => wpAny_pure ⟨rfl, q⟩) fun _ _ y => y)))))
      | (refine wpAny_bind (wpAny_rule ?_); show wpAny _ _ (standAt ib.pos >>= _) _ _ s; exact wpAny_bind (wpAny_standAt (wpAny_bind (wpAny_mono h (fun j z q => wpAny_pure ⟨rfl, q⟩) fun _ _ y => y))))
end
section
variable {X : Cx}
abbrev sO (w : World) (D : Addr) : HO := SetO w D (fun _ => false) 0
def tSc2 (w : World) (wi : TI) (g : TG) (tt : TT) (wj : TI) (f : TG) (uu : TT) (te : TE) (vs us : List Nat) : TE := fun σ H Q => wi σ H fun J H1 => ∀ D, H1 D = none →
  ∃ W : Nat → Nat → Hp → Prop, (∃ m, W 0 m (upd H1 D (sO w D))) ∧ ∀ i m H2, W i m H2 → (J.stop i H2 ∧ Q (.ref D) H2) ∨
    (J.go i H2 ∧ ∃ N : Hp → Prop, (∀ H3, N H3 → ∃ l, l < m ∧ W (i + 1) l H3) ∧ ∀ x H3, J.yld i H2 x H3 → g x (wipe σ vs) H3 fun τ H4 => wipe τ vs = wipe σ vs ∧ tt τ H4 fun b H5 =>
      if b = true then wj τ H5 fun J2 H6 => ∃ V2 : Nat → Nat → Hp → Prop, (∃ m, V2 0 m H6) ∧ ∀ j k H7, V2 j k H7 → (J2.stop j H7 ∧ N H7) ∨
        (J2.go j H7 ∧ ∃ M : Hp → Prop, (∀ H8, M H8 → ∃ l, l < k ∧ V2 (j + 1) l H8) ∧ ∀ y H8, J2.yld j H7 y H8 → f y (wipe τ us) H8 fun ρ H9 => wipe ρ us = wipe τ us ∧ uu ρ H9 fun c Ha =>
          if c = true then te ρ Ha fun z Hb => ∃ (k : Int) (S : Int → Bool) (n : Nat), z = .int k ∧ Hb D = some (SetO w D S n) ∧ n + 1 < scanBound ∧ M (upd Hb D (SetO w D (fun j => S j || decide (j = k)) (if S k = true then n else n + 1))) else M Ha)
      else N H5)
/-- what a block's rule is asked for: in any frame of the block -/
abbrev In (X : Cx) (sc : Scope) (p : Cx → Prop) : Prop := ∀ (s : Shared) (H : Hp) (C : Addr) (cl : List (Str × Addr)) (fp : List Addr), p (X.blk s H sc (compEnvC sc cl C X.env) fp)
theorem sc2_core {pins : List (Addr × Obj)} {s : Shared} {σ : L2.St} {H : Hp} {Q : VK} {el ta ia tb ib : Expr} {ca cb : List Expr} {sc : Scope} {own : List (Str × Nat)} {us : List Nat} {ps pq : Pos} {wi wj : TI} {g f : TG} {tt uu : TT} {te : TE} {use : Option (Value → Sem Unit)} {Qf : Value → Shared → Prop}
    (hc : X.calm = true) (hN : X.N.Nodup) (I : Inv X pins σ H s) (hi : PI X ta ia wi) (ok : BlkOk X.N X.env.scope sc own) (hv : ∀ i ∈ us, i ∈ own.map (·.2))
    (kg : In X sc fun Y => PG Y ta g) (kt : In X sc fun Y => PTs Y ca tt) (ke : In X sc fun Y => PE Y el te) (hs : ∀ x, foldedSetIterable ia X.env x = pure x)
    (ki : In X sc fun Y => PI Y tb ib wj) (kf : In X sc fun Y => PG Y tb f) (ku : In X sc fun Y => PTs Y cb uu) (hs2 : ∀ env x, foldedSetIterable ib env x = pure x)
    (h : tSc2 X.w wi g tt wj f uu te (own.map (·.2)) us σ H Q)
    (back : ∀ D C z m Hz, Inv X pins σ Hz z → Q (.ref D) Hz → z.heap.Ns C m → FpOk X pins Hz C → compPost (model X.prog X.w) X.A X.xe use Qf (.ref D) C (.ok .next) z) :
    wpAny (model X.prog X.w) X.A (comprehension (two el ta ia ca tb ib cb sc ps) sc X.env pq (newSet (.type "set")) false (eval ia X.env) use) Qf X.xe s := by
  have free : ∀ y ∈ sc.names, y.2 = .free → ∃ c, X.env.cells.lookup y.1 = some c := fun y hy e => (ok.free y hy e).elim (fun k => I.ok.has _ (.inl k)) fun k => I.ok.has _ (.inr k)
  refine wpAny_comprehension_free (use := use) rfl hs (closure_ok free) ok.kind (fun y hy e => by rw [ok.uniq y hy, e]) (thn (hi.run pins s σ H _ I h) fun _ sA hA => thn hA fun _ sB hB => ?_)
  obtain ⟨it, fp, tn, J, HB, rfl, IB, T, stB, fB, q⟩ := hB
  refine PpSet.newSet_ok (newEnv_comp ?_)
  generalize hD : sB.heap.objs.size = D
  have fresh : HB D = none := IB.hok.fresh (Nat.le_of_eq hD)
  obtain ⟨W, ⟨m0, w0⟩, walk⟩ := q D fresh
  generalize eC : ({ sB with heap := sB.heap.push (LcS.nul X.w) } : Shared) = sC
  have hpC : sC.heap = sB.heap.push (LcS.nul X.w) := by rw [← eC]
  have IC : Inv X pins σ (upd HB D (sO X.w D)) sC := by
    rw [← eC]
    refine IB.laid (t' := sB.toks) (fun b o e => Heap.get?_push_of_some _ e) (Nat.le_of_eq hD) ?_
    rw [← hD]
    exact setO_new (by simpa using setR_new_at (w := X.w) (ns := []) (Heap.get?_push_size sB.heap rfl))
  have young : ∀ b ∈ fp, b < sB.heap.objs.size := fun b hb => (T.obj _ _ stB b hb).elim fun o e => Heap.lt_size e.1
  have fC : ∀ b ∈ fp, FpOk X pins (upd HB D (sO X.w D)) b ∧ b < sC.heap.objs.size := fun b hb => by
    have y := young b hb
    refine ⟨⟨?_, (fB b hb).2⟩, by rw [hpC, Heap.size_push]; exact Nat.lt_succ_of_lt y⟩
    rw [upd_ne (by rw [← hD]; exact Nat.ne_of_lt y)]
    exact (fB b hb).1
  have stC : tn 0 sC.heap := T.keep _ _ _ stB fun b _ o e => by rw [hpC]; exact Heap.get?_push_of_some _ e
  have ID := block_start IC ok hN fC
  have pg := kg sC (upd HB D (sO X.w D)) sC.heap.objs.size (cellsFrom (sC.heap.objs.size + 1) sc.names (cloFrom X.env.cells sc.names [])) fp
  have pt := kt sC (upd HB D (sO X.w D)) sC.heap.objs.size (cellsFrom (sC.heap.objs.size + 1) sc.names (cloFrom X.env.cells sc.names [])) fp
  have pe := ke sC (upd HB D (sO X.w D)) sC.heap.objs.size (cellsFrom (sC.heap.objs.size + 1) sc.names (cloFrom X.env.cells sc.names [])) fp
  have pi := ki sC (upd HB D (sO X.w D)) sC.heap.objs.size (cellsFrom (sC.heap.objs.size + 1) sc.names (cloFrom X.env.cells sc.names [])) fp
  have pf := kf sC (upd HB D (sO X.w D)) sC.heap.objs.size (cellsFrom (sC.heap.objs.size + 1) sc.names (cloFrom X.env.cells sc.names [])) fp
  have pu := ku sC (upd HB D (sO X.w D)) sC.heap.objs.size (cellsFrom (sC.heap.objs.size + 1) sc.names (cloFrom X.env.cells sc.names [])) fp
  show codeAny _ _ (.compStart (two el ta ia ca tb ib cb sc ps) 0 (.ref it) (.ref D) (compEnvC sc (cellsFrom (sC.heap.objs.size + 1) sc.names (cloFrom X.env.cells sc.names [])) sC.heap.objs.size X.env)) (compPost (model X.prog X.w) X.A X.xe use Qf (.ref D) sC.heap.objs.size)
    { sC with heap := pushCells (sC.heap.push { cls := .type "dict", data := .dict #[] }) sc.names }
  have off : ∀ b ∈ fp, (upd HB D (sO X.w D)) b = none := fun b hb => (fC b hb).1.1
  generalize hv2 : compEnvC sc (cellsFrom (sC.heap.objs.size + 1) sc.names (cloFrom X.env.cells sc.names [])) sC.heap.objs.size X.env = v at ID pg pt pe pi pf pu ⊢
  have loc : v.locals = sC.heap.objs.size := by subst hv2; rfl
  generalize hH : upd HB D (sO X.w D) = HC at IC ID pg pt pe pi pf pu w0 off fC
  generalize hsD : ({ sC with heap := pushCells (sC.heap.push { cls := .type "dict", data := .dict #[] }) sc.names } : Shared) = sD at ID ⊢
  have stD : tn 0 sD.heap := T.keep _ _ _ stC fun b _ o e => by rw [← hsD]; exact pushCells_keeps _ _ _ _ (Heap.get?_push_of_some _ e)
  -- the iterator's objects, in the block
  have apart : ∀ {ρ : L2.St} {G : Hp} {z : Shared}, Inv (X.blk sC HC sc v fp) [] ρ G z → (∀ b ∈ fp, G b = none) → ∀ b ∈ fp, FpOk (X.blk sC HC sc v fp) [] G b := fun {ρ G z} J' n b hb =>
    ⟨n b hb, (J'.ok.exf b hb).1, J'.ok.exfs b hb, .inl hb, fun x c e => (J'.ok.exf b hb).2 x c e, fun p hp => absurd (show p ∈ ([] : List (Addr × Obj)) ++ [] from hp) (by simp)⟩
  -- where a turn begins
  let At : Nat → Nat → Shared → Prop := fun n i z => ∃ G, Inv (X.blk sC HC sc v fp) [] (wipe σ (own.map (·.2))) G z ∧ tn i z.heap ∧ (∀ b ∈ fp, G b = none) ∧ W i n G
  have all : codeAny (model X.prog X.w) X.A (.compLoop (two el ta ia ca tb ib cb sc ps) 0 (.ref it) (.ref D) v) (compPost (model X.prog X.w) X.A X.xe use Qf (.ref D) sC.heap.objs.size) sD := by
    refine outer (hs2 v) (fun n z => ∃ i, At n i z) ?_ m0 ⟨0, HC, ID, stD, off, w0⟩
    rintro n s5 ⟨i, H5, I5, st5, n5, w5⟩
    rcases walk i n H5 w5 with ⟨stop, fin⟩ | ⟨go, N, down, step⟩
    · refine thnF (T.done (X.blk sC HC sc v fp) rfl rfl rfl hc i [] s5 _ H5 (fun _ _ => False) I5 (apart I5 n5) st5 stop) fun r s6 h6 => ?_
      obtain ⟨rfl, I6⟩ := h6
      have I7 : Inv X pins σ H5 s6 := IC.call' (ch := fp) I6.os I6.base I6.hok I6.bare fun b hb => ⟨(fC b hb).1.2.2.2.1, (fC b hb).1.2.1, (fC b hb).1.2.2.2.2.1, (fC b hb).1.2.2.2.2.2⟩
      have nC : H5 sC.heap.objs.size = none := loc ▸ (show H5 v.locals = none from I6.free)
      obtain ⟨m, ns, _⟩ := I6.loc
      have ns : s6.heap.Ns v.locals m := ns
      rw [loc] at ns
      exact back D sC.heap.objs.size s6 m H5 I7 fin ns (IC.fpOk (Nat.le_refl _) nC)
    · refine thnF (T.item (X.blk sC HC sc v fp) rfl rfl rfl hc i [] s5 _ H5 (fun _ _ => False) I5 (apart I5 n5) st5 go) fun r s6 h6 => ?_
      obtain ⟨u, rfl, h6⟩ := h6
      refine thnF h6 fun _ s7 h7 => ?_
      obtain ⟨x, H7, I7, r7, y7, st7, n7⟩ := h7
      refine thnF (pg.run _ s7 _ H7 x u _ (I7.pinned (apart I7 n7) (T.obj _ _ st7)) r7 (step x H7 y7)) fun _ s8 h8 => ?_
      obtain ⟨τ, H8, I8, e8, q8⟩ := h8
      refine thnF (pt.run _ s8 τ H8 _ I8 q8) fun b s9 h9 => ?_
      obtain ⟨H9, I9, q9⟩ := h9
      have len8 : (wipe σ (own.map (·.2))).length = τ.length := by rw [← e8, wipe_length]
      have kn8 : ∀ (j : Nat) y, (wipe σ (own.map (·.2)))[j]? = some (some y) → τ[j]? = some (some y) := fun j y e => (wipe_some (by rw [e8]; exact e)).1
      have kn9 : ∀ (j : Nat) y, (wipe σ (own.map (·.2)))[j]? = some (some y) → (wipe τ us)[j]? = some (some y) := fun j y e => by
        obtain ⟨a, c⟩ := wipe_some (show (wipe τ (own.map (·.2)))[j]? = some (some y) by rw [e8]; exact e)
        rw [wipe_out fun z => c (hv j z)]
        exact a
      -- a turn's end
      have next : ∀ {ρ : L2.St} {z : Shared} {G : Hp}, Inv (X.blk sC HC sc v fp) ([] ++ pinsAt fp s7.heap) ρ G z → (wipe σ (own.map (·.2))).length = ρ.length →
          (∀ (j : Nat) y, (wipe σ (own.map (·.2)))[j]? = some (some y) → ρ[j]? = some (some y)) → N G → ∃ m, m < n ∧ ∃ i, At m i z := fun {ρ z G} I' hl hk nx => by
        obtain ⟨l, lt, w'⟩ := down G nx
        have pinned : ∀ b ∈ fp, ∀ o, s7.heap.get? b = some o → z.heap.get? b = some o ∧ G b = none := fun b hb o e => by
          have z := I'.pin (b, o) (List.mem_append_right _ (List.mem_append_right _ (mem_pinsAt hb e)))
          exact ⟨z.1, z.2.1⟩
        exact ⟨l, lt, i + 1, G, (I'.unpinned (pins := [])).weak hl hk, T.keep _ _ _ st7 fun b hb o e => (pinned b hb o e).1, fun b hb => (T.obj _ _ st7 b hb).elim fun o e => (pinned b hb o e.1).2, w'⟩
      cases b with
      | false => exact next I9 len8 kn8 q9
      | true =>
        refine thnF (pi.run _ s9 τ H9 _ I9 q9) fun _ sx hx => thnF hx fun _ sy hy => ?_
        obtain ⟨jt, fq, tq, J2, Hy, rfl, Iy, T2, sty, fy, V2, ⟨m2, v0⟩, walk2⟩ := hy
        have apart2 : ∀ {G : Hp}, (∀ b ∈ fq, G b = none) → ∀ b ∈ fq, FpOk (X.blk sC HC sc v fp) ([] ++ pinsAt fp s7.heap) G b := fun n b hb => ⟨n b hb, (fy b hb).2⟩
        have lp : codeAny (model X.prog X.w) X.A (.compLoop (two el ta ia ca tb ib cb sc ps) 1 (.ref jt) (.ref D) v)
            (fun r z => match r with | .ok _ => ∃ m, m < n ∧ ∃ i, At m i z | .error _ => False) sy := by
          refine inner (fun k z => ∃ j G, Inv (X.blk sC HC sc v fp) ([] ++ pinsAt fp s7.heap) (wipe τ us) G z ∧ tq j z.heap ∧ (∀ b ∈ fq, G b = none) ∧ V2 j k G) ?_ m2 ⟨0, Hy, Iy.weak (wipe_length _ _) (fun j y e => (wipe_some e).1), sty, fun b hb => (fy b hb).1, v0⟩
          rintro k sz ⟨j, Hz, Iz, stz, nz, vz⟩
          rcases walk2 j k Hz vz with ⟨stop2, nx⟩ | ⟨go2, M, down2, step2⟩
          · refine thnF (T2.done (X.blk sC HC sc v fp) rfl rfl rfl hc j _ sz (wipe τ us) Hz (fun _ _ => False) Iz (apart2 nz) stz stop2) fun r sv h13 => ?_
            obtain ⟨rfl, Iv⟩ := h13
            exact next Iv (len8.trans (wipe_length τ us).symm) kn9 nx
          · refine thnF (T2.item (X.blk sC HC sc v fp) rfl rfl rfl hc j _ sz (wipe τ us) Hz (fun _ _ => False) Iz (apart2 nz) stz go2) fun r sv h13 => ?_
            obtain ⟨u2, rfl, h13⟩ := h13
            refine thnF h13 fun _ sw h14 => ?_
            obtain ⟨x2, Hw, Iw, rw2, yw, stw, nw⟩ := h14
            refine thnF (pf.run _ sw (wipe τ us) Hw x2 u2 _ (Iw.pinned (apart2 nw) (T2.obj _ _ stw)) rw2 (step2 x2 Hw yw)) fun _ s15 h15 => ?_
            obtain ⟨ρ, H15, I15, e15, q15⟩ := h15
            refine thnF (pu.run _ s15 ρ H15 _ I15 q15) fun c s16 h16 => ?_
            obtain ⟨H16, I16, q16⟩ := h16
            have next2 : ∀ {z : Shared} {G : Hp}, Inv (X.blk sC HC sc v fp) (([] ++ pinsAt fp s7.heap) ++ pinsAt fq sw.heap) ρ G z → M G → ∃ m, m < k ∧ ∃ j G, Inv (X.blk sC HC sc v fp) ([] ++ pinsAt fp s7.heap) (wipe τ us) G z ∧ tq j z.heap ∧ (∀ b ∈ fq, G b = none) ∧ V2 j m G := fun {z G} I' nx => by
              obtain ⟨l, lt, w'⟩ := down2 G nx
              have pinned : ∀ b ∈ fq, ∀ o, sw.heap.get? b = some o → z.heap.get? b = some o ∧ G b = none := fun b hb o e => by
                have y := I'.pin (b, o) (List.mem_append_right _ (List.mem_append_right _ (mem_pinsAt hb e)))
                exact ⟨y.1, y.2.1⟩
              exact ⟨l, lt, j + 1, G, I'.unpinned.weak (by rw [← e15, wipe_length]) (fun j y e => (wipe_some (by rw [e15]; exact e)).1), T2.keep _ _ _ stw fun b hb o e => (pinned b hb o e).1, fun b hb => (T2.obj _ _ stw b hb).elim fun o e => (pinned b hb o e.1).2, w'⟩
            cases c with
            | false => exact next2 I16 q16
            | true =>
              refine thnF (pe.run _ s16 ρ H16 _ I16 q16) fun y s17 h17 => ?_
              obtain ⟨yv, H17, I17, r17, kk, S, n, rfl, hDn, room, nx⟩ := h17
              refine thnF (mt_sadd (X := X.blk sC HC sc v fp) _ s17 ρ H17 (.ref D) [.int kk] (.ref D) [y] (fun _ G => M G) I17 rfl (.cons r17 .nil) ⟨D, kk, S, n, rfl, rfl, hDn, room, nx⟩) fun _ s18 h18 => ?_
              obtain ⟨_, H18, I18, _, nx18⟩ := h18
              exact next2 I18 nx18
        exact start1 lp (T2.self X.A 0 _ _ _ sty lp)
  exact PpSet.codeAny_compStart_set all (T.self X.A 0 _ _ _ stD all)
theorem pe_sc2 {el ta ia tb ib : Expr} {ca cb : List Expr} {sc : Scope} {own : List (Str × Nat)} {vs1 : List Nat} {ps : Pos} {wi wj : TI} {g g1 : TG} {tt tt1 : TT} {te : TE} (hc : X.calm = true) (hN : X.N.Nodup) (hi : PI X ta ia wi) (ok : BlkOk X.N X.env.scope sc own) (hv : ∀ i ∈ vs1, i ∈ own.map (·.2))
    (kg : In X sc fun Y => PG Y ta g) (kt : In X sc fun Y => PTs Y ca tt) (ki : In X sc fun Y => PI Y tb ib wj) (kf : In X sc fun Y => PG Y tb g1) (ku : In X sc fun Y => PTs Y cb tt1) (ke : In X sc fun Y => PE Y el te)
    (hs : ∀ x, foldedSetIterable ia X.env x = pure x := by intro _; rfl) (hs2 : ∀ env x, foldedSetIterable ib env x = pure x := by intro _ _; rfl) :
    PE X (two el ta ia ca tb ib cb sc ps) (tSc2 X.w wi g tt wj g1 tt1 te (own.map (·.2)) vs1) := by
  refine ⟨fun pins s σ H Q I h => ?_⟩
  rw [PpSet.eval_SetComp]
  refine sc2_core hc hN I hi ok hv kg kt ke hs ki kf ku hs2 h fun D C z m Hz I' q ns fo => ⟨m, ns, fun h'' sb => ?_⟩
  obtain ⟨o0, o1, o2, o3, o4, o5⟩ := fo
  exact ⟨.ref D, Hz, I'.turned (t' := z.toks) (fun b o hb e => (sb.2 b hb).trans e) o0 o1 o3 o4 o5, rfl, q⟩
end
end LcC
namespace Lc
open PySem PySem.Spec PyProof.Rows L2 RZ
/-! ### comprehensions in comprehensions -/
def relabelC (sc scope : Scope) : Scope :=
  { scope with names := scope.names.map fun q => if q.2 == .free && sc.kind == .function && sc.names.lookup q.1 == some .cell then (q.1, .cell) else (q.1, q.2) }
theorem blkOk_in {N : List Str} {sc0 scO scI : Scope} {env : Env} {own : List (Str × Nat)} (he : env.scope = sc0) (h : blkC N (relabelC sc0 scO) scI own = true) : BlkOk N (relabel scO env) scI own := by
  have e : relabel scO env = relabelC sc0 scO := by subst he; rfl
  rw [e]
  exact blkOk_by h
/-! ### data trees, some addresses kept out -/
abbrev AS := Addr → Prop
def And1 (Av : Addr → Prop) (D : Addr) : Addr → Prop := fun b => Av b ∨ b = D
mutual
inductive Oc (H : Hp) (S : AS) : V → Dt → Prop where
  | non : Oc H S .non .non
  | bl (b : Bool) : Oc H S (.bl b) (.bl b)
  | int (i : Int) : Oc H S (.int i) (.int i)
  | str (s : Str) : Oc H S (.str s) (.str s)
  | lst {a : Addr} {xs : List V} {ds : List Dt} (e : H a = some (.lst xs)) (ne : ¬ S a) (all : Ocs H S xs ds) : Oc H S (.ref a) (.lst ds)
  | tup {a : Addr} {z : Bool} {xs : List V} {ds : List Dt} (e : Tp H a z xs) (ne : ¬ S a) (all : Ocs H S xs ds) : Oc H S (.ref a) (.tup z ds)
inductive Ocs (H : Hp) (S : AS) : List V → List Dt → Prop where
  | nil : Ocs H S [] []
  | cons {v : V} {d : Dt} {vs : List V} {ds : List Dt} (h : Oc H S v d) (t : Ocs H S vs ds) : Ocs H S (v :: vs) (d :: ds)
end
/-- all but S stands as it was -/
def ButS (S : AS) (H H' : Hp) : Prop := ∀ b o, ¬ S b → H b = some o → H' b = some o
def Lv (H : Hp) (S : AS) : Prop := ∀ a, S a → H a ≠ none
theorem Tp.butS {H H' : Hp} {S : AS} {a : Addr} {z : Bool} {xs : List V} (b : ButS S H H') (ne : ¬ S a) (h : Tp H a z xs) : Tp H' a z xs := by
  cases h with
  | new e => exact .new (b _ _ ne e)
  | bare c d e => exact .bare c d (b _ _ ne e)
mutual
theorem Oc.but {H H' : Hp} {S : AS} (b : ButS S H H') : ∀ {v : V} {d : Dt}, Oc H S v d → Oc H' S v d
  | _, _, .non => .non
  | _, _, .bl b => .bl b
  | _, _, .int i => .int i
  | _, _, .str s => .str s
  | _, _, .lst e ne all => .lst (b _ _ ne e) ne (Ocs.but b all)
  | _, _, .tup e ne all => .tup (e.butS b ne) ne (Ocs.but b all)
theorem Ocs.but {H H' : Hp} {S : AS} (b : ButS S H H') : ∀ {vs : List V} {ds : List Dt}, Ocs H S vs ds → Ocs H' S vs ds
  | _, _, .nil => .nil
  | _, _, .cons h t => .cons (Oc.but b h) (Ocs.but b t)
end
mutual
theorem Oc.sub {H : Hp} {S S' : AS} (k : ∀ a, S' a → S a) : ∀ {v : V} {d : Dt}, Oc H S v d → Oc H S' v d
  | _, _, .non => .non
  | _, _, .bl b => .bl b
  | _, _, .int i => .int i
  | _, _, .str s => .str s
  | _, _, .lst e ne all => .lst e (fun z => ne (k _ z)) (Ocs.sub k all)
  | _, _, .tup e ne all => .tup e (fun z => ne (k _ z)) (Ocs.sub k all)
theorem Ocs.sub {H : Hp} {S S' : AS} (k : ∀ a, S' a → S a) : ∀ {vs : List V} {ds : List Dt}, Ocs H S vs ds → Ocs H S' vs ds
  | _, _, .nil => .nil
  | _, _, .cons h t => .cons (Oc.sub k h) (Ocs.sub k t)
end
theorem Tp.some {H : Hp} {a : Addr} {z : Bool} {xs : List V} (h : Tp H a z xs) : H a ≠ none := by
  cases h with
  | new e => rw [e]; exact fun z => nomatch z
  | bare c d e => rw [e]; exact fun z => nomatch z
mutual
theorem Oc.add {H : Hp} {S : AS} {D : Addr} (hD : H D = none) : ∀ {v : V} {d : Dt}, Oc H S v d → Oc H (And1 S D) v d
  | _, _, .non => .non
  | _, _, .bl b => .bl b
  | _, _, .int i => .int i
  | _, _, .str s => .str s
  | _, _, .lst e ne all => .lst e (fun z => z.elim ne fun y => by rw [y, hD] at e; cases e) (Ocs.add hD all)
  | _, _, .tup e ne all => .tup e (fun z => z.elim ne fun y => e.some (y ▸ hD)) (Ocs.add hD all)
theorem Ocs.add {H : Hp} {S : AS} {D : Addr} (hD : H D = none) : ∀ {vs : List V} {ds : List Dt}, Ocs H S vs ds → Ocs H (And1 S D) vs ds
  | _, _, .nil => .nil
  | _, _, .cons h t => .cons (Oc.add hD h) (Ocs.add hD t)
end
section
variable {H H' : Hp} {S S' : AS} {v : V} {d : Dt} {vs : List V} {ds : List Dt}
theorem Same.butS (k : Same H H') : ButS S H H' := fun b o _ e => k b o e
theorem Oc.same (k : Same H H') (h : Oc H S v d) : Oc H' S v d := h.but (Same.butS k)
theorem Ocs.same (k : Same H H') (h : Ocs H S vs ds) : Ocs H' S vs ds := h.but (Same.butS k)
theorem Ocs.len : ∀ {vs : List V} {ds : List Dt}, Ocs H S vs ds → vs.length = ds.length
  | _, _, .nil => rfl
  | _, _, .cons _ t => congrArg Nat.succ (Ocs.len t)
theorem Ocs.get : ∀ {vs : List V} {ds : List Dt} {i : Nat} {x : V}, Ocs H S vs ds → vs[i]? = some x → ∃ d, ds[i]? = some d ∧ Oc H S x d
  | _, _, _, _, .nil, e => by simp at e
  | _, _, 0, _, .cons h _, e => by
    have e := Option.some.inj (show some _ = some _ from e)
    subst e; exact ⟨_, rfl, h⟩
  | _, _, i + 1, x, .cons _ t, e => Ocs.get (i := i) t (by simpa using e)
theorem Ocs.at : ∀ {vs : List V} {ds : List Dt} {i : Nat} {d : Dt}, Ocs H S vs ds → ds[i]? = some d → ∃ x, vs[i]? = some x ∧ Oc H S x d
  | _, _, _, _, .nil, e => by simp at e
  | _, _, 0, _, .cons h _, e => by
    have e := Option.some.inj (show some _ = some _ from e)
    subst e; exact ⟨_, rfl, h⟩
  | _, _, i + 1, x, .cons _ t, e => Ocs.at (i := i) t (by simpa using e)
theorem Ocs.append : ∀ {vs ws : List V} {ds es : List Dt}, Ocs H S vs ds → Ocs H S ws es → Ocs H S (vs ++ ws) (ds ++ es)
  | _, _, _, _, .nil, s => s
  | _, _, _, _, .cons h t, s => .cons h (Ocs.append t s)
theorem Ocs.snoc (h : Ocs H S vs ds) (t : Oc H S v d) : Ocs H S (vs ++ [v]) (ds ++ [d]) := h.append (.cons t .nil)
theorem Oc.put {D : Addr} {o : HO} (hD : S D) (h : Oc H S v d) : Oc (upd H D o) S v d := h.but fun b u n e => by
  rw [upd_ne (fun z => n (by rw [z]; exact hD))]; exact e
theorem Ocs.put {D : Addr} {o : HO} (hD : S D) (h : Ocs H S vs ds) : Ocs (upd H D o) S vs ds := h.but fun b u n e => by
  rw [upd_ne (fun z => n (by rw [z]; exact hD))]; exact e
theorem Lv.same (k : Same H H') (h : Lv H S) : Lv H' S := fun a ha z => by
  cases y : H a with
  | none => exact h a ha y
  | some o => rw [k _ _ y] at z; cases z
theorem Lv.add {D : Addr} {o : HO} (h : Lv H S) (hD : H D = none) : Lv (upd H D o) (And1 S D) := fun b hb z => by
  rcases hb with hb | hb
  · exact Lv.same (same_upd hD) h b hb z
  · subst hb; rw [upd_same] at z; cases z
theorem Lv.out {D : Addr} (h : Lv H S) (hD : H D = none) : ¬ S D := fun z => h D z hD
theorem Oc.arg {K : PySem.W.Frag} (h : Oc H S v d) : Arg K H v (tyName d) := by
  cases h with
  | non => exact .non
  | bl b => exact .bl b
  | int i => exact .int i
  | str s => exact .str s
  | lst e _ _ => exact .lst e
  | tup e _ _ =>
    cases e with
    | new e => exact .tup e
    | bare c d e => exact .ftup e
theorem Oc.lst_inv (h : Oc H S v (.lst ds)) : ∃ a xs, v = .ref a ∧ H a = some (.lst xs) ∧ ¬ S a ∧ Ocs H S xs ds := by
  cases h with
  | lst e ne all => exact ⟨_, _, rfl, e, ne, all⟩
theorem Oc.tup_inv {z : Bool} (h : Oc H S v (.tup z ds)) : ∃ a xs, v = .ref a ∧ Tp H a z xs ∧ ¬ S a ∧ Ocs H S xs ds := by
  cases h with
  | tup e ne all => exact ⟨_, _, rfl, e, ne, all⟩
theorem Oc.int_inv {i : Int} (h : Oc H S v (.int i)) : v = .int i := by cases h; rfl
theorem Oc.bl_inv {i : Bool} (h : Oc H S v (.bl i)) : v = .bl i := by cases h; rfl
theorem Oc.str_inv {i : Str} (h : Oc H S v (.str i)) : v = .str i := by cases h; rfl
theorem Ocs.ints : ∀ {vs : List V} {ns : List Int}, Ocs H S vs (ns.map Dt.int) → vs = ns.map V.int
  | _, [], .nil => rfl
  | _, n :: r, .cons h t => by rw [h.int_inv, Ocs.ints t]; rfl
theorem ocs_ints : ∀ ns : List Int, Ocs H S (ns.map V.int) (ns.map Dt.int)
  | [] => .nil
  | n :: r => .cons (.int n) (ocs_ints r)
theorem Ocs.strs : ∀ {vs : List V} {ns : List Str}, Ocs H S vs (ns.map Dt.str) → vs = ns.map V.str
  | _, [], .nil => rfl
  | _, n :: r, .cons h t => by rw [h.str_inv, Ocs.strs t]; rfl
theorem Ocs.bls : ∀ {vs : List V} {ns : List Bool}, Ocs H S vs (ns.map Dt.bl) → vs = ns.map V.bl
  | _, [], .nil => rfl
  | _, n :: r, .cons h t => by rw [h.bl_inv, Ocs.bls t]; rfl
end
mutual
theorem Oc.ob {H : Hp} {S : AS} {p : Addr} (hp : S p) : ∀ {v : V} {d : Dt}, Oc H S v d → Ob H p v d
  | _, _, .non => .non
  | _, _, .bl b => .bl b
  | _, _, .int i => .int i
  | _, _, .str s => .str s
  | _, _, .lst e ne all => .lst e (fun z => ne (z ▸ hp)) (Ocs.ob hp all)
  | _, _, .tup e ne all => .tup e (fun z => ne (z ▸ hp)) (Ocs.ob hp all)
theorem Ocs.ob {H : Hp} {S : AS} {p : Addr} (hp : S p) : ∀ {vs : List V} {ds : List Dt}, Ocs H S vs ds → Obs H p vs ds
  | _, _, .nil => .nil
  | _, _, .cons h t => .cons (Oc.ob hp h) (Ocs.ob hp t)
end
/-! ### from one place to a later one -/
structure Lift (H : Hp) (S : AS) (H1 : Hp) (S1 : AS) : Prop where
  ob : ∀ {u : V} {e : Dt}, Oc H S u e → Oc H1 S1 u e
  live : Lv H1 S1
  sub : ∀ a, S a → S1 a
  same : Same H H1
theorem Lift.refl {H : Hp} {S : AS} (l : Lv H S) : Lift H S H S := ⟨fun h => h, l, fun _ h => h, fun _ _ z => z⟩
theorem Lift.trans {H H1 H2 : Hp} {S S1 S2 : AS} (x : Lift H S H1 S1) (y : Lift H1 S1 H2 S2) : Lift H S H2 S2 := ⟨fun h => y.ob (x.ob h), y.live, fun a h => y.sub a (x.sub a h), x.same.trans y.same⟩
theorem Lift.then {H H1 H2 : Hp} {S S1 : AS} (x : Lift H S H1 S1) (k : Same H1 H2) : Lift H S H2 S1 := ⟨fun h => (x.ob h).same k, Lv.same k x.live, x.sub, x.same.trans k⟩
theorem Lift.new {H : Hp} {S : AS} {D : Addr} {o : HO} (l : Lv H S) (hD : H D = none) : Lift H S (upd H D o) (And1 S D) :=
  ⟨fun h => (h.add hD).put (.inr rfl), l.add hD, fun a h => .inl h, same_upd hD⟩
theorem Lift.obs {H H1 : Hp} {S S1 : AS} (x : Lift H S H1 S1) : ∀ {us : List V} {es : List Dt}, Ocs H S us es → Ocs H1 S1 us es
  | _, _, .nil => .nil
  | _, _, .cons h t => .cons (x.ob h) (Lift.obs x t)
/-- an expression that comes to the datum d, nothing changed -/
def DE (te : TE) (σ : L2.St) (H : Hp) (S : AS) (d : Dt) : Prop := ∀ (H1 : Hp) (S1 : AS) (Q : VK), Lift H S H1 S1 → (∀ v H2, Same H1 H2 → Oc H2 S1 v d → Q v H2) → te σ H1 Q
def DT (tt : TT) (σ : L2.St) (H : Hp) (S : AS) (b : Bool) : Prop := ∀ (H1 : Hp) (S1 : AS) (Q : Bool → Hp → Prop), Lift H S H1 S1 → (∀ H2, Same H1 H2 → Q b H2) → tt σ H1 Q
theorem DE.lift {te : TE} {σ : L2.St} {H H1 : Hp} {S S1 : AS} {d : Dt} (h : DE te σ H S d) (x : Lift H S H1 S1) : DE te σ H1 S1 d := fun H2 S2 Q y q => h H2 S2 Q (x.trans y) q
theorem DT.lift {te : TT} {σ : L2.St} {H H1 : Hp} {S S1 : AS} {d : Bool} (h : DT te σ H S d) (x : Lift H S H1 S1) : DT te σ H1 S1 d := fun H2 S2 Q y q => h H2 S2 Q (x.trans y) q
theorem DE.go {te : TE} {σ : L2.St} {H : Hp} {S : AS} {d : Dt} {Q : VK} (h : DE te σ H S d) (l : Lv H S) (q : ∀ v H2, Same H H2 → Oc H2 S v d → Q v H2) : te σ H Q := h H S Q (Lift.refl l) q
section
variable {σ : L2.St} {H : Hp} {S : AS} {K : PySem.W.Frag}
theorem D_var {i : Nat} {v : V} {d : Dt} (h : σ[i]? = some (some v)) (o : Oc H S v d) : DE (tVar i) σ H S d := fun H1 S1 Q x q => ⟨v, h, q _ _ (fun _ _ z => z) (x.ob o)⟩
theorem D_int (i : Int) : DE (tC (.int i)) σ H S (.int i) := fun H1 S1 Q x q => q _ _ (fun _ _ z => z) (.int i)
theorem D_str (i : Str) : DE (tC (.str i)) σ H S (.str i) := fun H1 S1 Q x q => q _ _ (fun _ _ z => z) (.str i)
theorem D_eq {te : TE} {d e : Dt} (h : DE te σ H S d) (z : d = e) : DE te σ H S e := z ▸ h
theorem D_add {ta tb : TE} {i j : Int} (ha : DE ta σ H S (.int i)) (hb : DE tb σ H S (.int j)) : DE (tOp (rI0 fun i j => .int (i + j)) ta tb) σ H S (.int (i + j)) := fun H1 S1 Q x q =>
  ha H1 S1 _ x fun v H2 k o => (hb.lift (x.then k)).go (Lv.same k x.live) fun u H3 k3 o3 => by
    rw [o.int_inv, o3.int_inv]
    exact ⟨i, j, rfl, rfl, q _ _ (k.trans k3) (.int _)⟩
theorem D_sub {ta tb : TE} {i j : Int} (ha : DE ta σ H S (.int i)) (hb : DE tb σ H S (.int j)) : DE (tOp (rI0 fun i j => .int (i - j)) ta tb) σ H S (.int (i - j)) := fun H1 S1 Q x q =>
  ha H1 S1 _ x fun v H2 k o => (hb.lift (x.then k)).go (Lv.same k x.live) fun u H3 k3 o3 => by
    rw [o.int_inv, o3.int_inv]
    exact ⟨i, j, rfl, rfl, q _ _ (k.trans k3) (.int _)⟩
/-- arguments -/
def DA (ta : TA) (σ : L2.St) (H : Hp) (S : AS) (ds : List Dt) : Prop := ∀ (H1 : Hp) (S1 : AS) (Q : List V → Hp → Prop), Lift H S H1 S1 → (∀ vs H2, Same H1 H2 → Ocs H2 S1 vs ds → Q vs H2) → ta σ H1 Q
theorem D_nil : DA tNil σ H S [] := fun H1 S1 Q x q => q _ _ (fun _ _ z => z) .nil
theorem D_cons {te : TE} {ta : TA} {d : Dt} {ds : List Dt} (h : DE te σ H S d) (t : DA ta σ H S ds) : DA (tCons te ta) σ H S (d :: ds) := fun H1 S1 Q x q =>
  h H1 S1 _ x fun v H2 k o => t H2 S1 _ (x.then k) fun vs H3 k3 o3 => q _ _ (k.trans k3) (.cons (o.same k3) o3)
/-- (a, ..) -/
theorem D_tup {ta : TA} {ds : List Dt} (h : DA ta σ H S ds) (hz : ds.length ≤ 1000) : DE (tTupF ta) σ H S (.tup true ds) := fun H1 S1 Q x q =>
  h H1 S1 _ x fun vs H2 k o => ⟨Nat.le_trans (show _ ≤ 1000 by rw [o.len]; exact hz) (by decide), fun p H3 hp k3 tp g => q _ _ (k.trans k3) (.tup tp (Lv.out (Lv.same k x.live) hp) (o.same k3))⟩
/-- [a, ..] -/
theorem D_lst {ta : TA} {ds : List Dt} (h : DA ta σ H S ds) (hz : ds.length ≤ 1000) : DE (tLst ta) σ H S (.lst ds) := fun H1 S1 Q x q =>
  h H1 S1 _ x fun vs H2 k o => ⟨Nat.le_trans (show _ ≤ 1000 by rw [o.len]; exact hz) (by decide), fun p hp => q _ _ (k.trans (same_upd hp)) (.lst upd_same (Lv.out (Lv.same k x.live) hp) (o.same (same_upd hp)))⟩
/-- t + u of tuples -/
theorem D_cat {ta tb : TE} {ds es : List Dt} (ha : DE ta σ H S (.tup true ds)) (hb : DE tb σ H S (.tup true es)) (hz : ds.length + es.length ≤ 1000) : DE (tOp (rCatF K) ta tb) σ H S (.tup true (ds ++ es)) := fun H1 S1 Q x q =>
  ha H1 S1 _ x fun v H2 k o => (hb.lift (x.then k)).go (Lv.same k x.live) fun u H3 k3 o3 => by
    obtain ⟨a, xs, rfl, ea, na, oa⟩ := o.tup_inv
    obtain ⟨b, ys, rfl, eb, nb, ob⟩ := o3.tup_inv
    have la := oa.len
    have lb := ob.len
    have oa' := oa.same k3
    refine ⟨a, b, xs, ys, rfl, rfl, (ea.same k3).sq, eb.sq, Nat.le_trans (show _ ≤ 1000 by omega) (by decide), fun e => ?_, fun e e2 => ?_, fun e e2 p H4 hp k4 tp g => ?_⟩
    · subst e
      cases oa
      exact q _ _ (k.trans k3) (.tup eb nb ob)
    · subst e2
      cases ob
      exact q _ _ (k.trans k3) (by rw [List.append_nil]; exact .tup (ea.same k3) na oa')
    · exact q _ _ ((k.trans k3).trans k4) (.tup tp (Lv.out (Lv.same k3 (Lv.same k x.live)) hp) ((oa'.append ob).same k4))
/-- tuple(a list) -/
theorem D_tupleOf {ta : TE} {ds : List Dt} (ha : DE ta σ H S (.lst ds)) : DE (tTupOfF K ta) σ H S (.tup true ds) := fun H1 S1 Q x q =>
  ha H1 S1 _ x fun v H2 k o => by
    obtain ⟨a, xs, rfl, ea, na, oa⟩ := o.lst_inv
    exact ⟨a, xs, rfl, SqL.of ea, fun p H3 hp k3 tp g => q _ _ (k.trans k3) (.tup tp (Lv.out (Lv.same k x.live) hp) (oa.same k3))⟩
/-! ### comprehensions -/
/-- one turn: what is put to the list, if anything is -/
def Turn1 (g : TG) (tt : TT) (te : TE) (vs : List Nat) (σ : L2.St) (x : V) (H : Hp) (S : AS) (r : Option Dt) : Prop :=
  ∀ (C : V → Hp → Prop) (N : Hp → Prop), (∀ y d H4, r = some d → Same H H4 → Oc H4 S y d → C y H4) → (∀ H4, r = none → Same H H4 → N H4) →
    g x (wipe σ vs) H fun σ2 H2 => wipe σ2 vs = wipe σ vs ∧ tt σ2 H2 fun b H3 => if b = true then te σ2 H3 C else N H3
theorem turn_map {te : TE} {i : Nat} {x : V} {d : Dt} (hw : wipe ((wipe σ [i]).set i (some x)) [i] = wipe σ [i]) (l : Lv H S) (h : DE te ((wipe σ [i]).set i (some x)) H S d) : Turn1 (gName i) tYes te [i] σ x H S (some d) := fun C N hc hn =>
  ⟨hw, h.go l fun v H2 k o => hc _ _ _ rfl k o⟩
theorem turn_test {te : TE} {tt : TT} {i : Nat} {x : V} {d : Dt} {b : Bool} (hw : wipe ((wipe σ [i]).set i (some x)) [i] = wipe σ [i]) (l : Lv H S) (ht : DT tt ((wipe σ [i]).set i (some x)) H S b) (h : b = true → DE te ((wipe σ [i]).set i (some x)) H S d) :
    Turn1 (gName i) tt te [i] σ x H S (if b = true then some d else none) := fun C N hc hn =>
  ⟨hw, ht H S _ (Lift.refl l) fun H2 k => by
    cases b with
    | true => exact ((h rfl).lift ((Lift.refl l).then k)).go (Lv.same k l) fun v H3 k3 o => hc _ _ _ rfl (k.trans k3) o
    | false => exact hn _ rfl k⟩
/-- what is made so far stands at D -/
structure Made (H2 : Hp) (S : AS) (D : Addr) (ds : List Dt) (H' : Hp) : Prop where
  same : Same H2 H'
  acc : ∃ vs, H' D = some (.lst vs) ∧ Ocs H' (And1 S D) vs ds
theorem Made.nil {H2 : Hp} {D : Addr} (hD : H2 D = none) : Made H2 S D [] (upd H2 D (.lst [])) := ⟨same_upd hD, [], upd_same, .nil⟩
theorem Made.lift {H2 H' : Hp} {D : Addr} {ds : List Dt} (l : Lv H2 S) (hD : H2 D = none) (m : Made H2 S D ds H') : Lift H2 S H' (And1 S D) := by
  refine ⟨fun h => (h.add hD).same m.same, fun a ha z => ?_, fun a h => .inl h, m.same⟩
  rcases ha with ha | ha
  · exact Lv.same m.same l a ha z
  · obtain ⟨vs, e, _⟩ := m.acc
    rw [ha, e] at z; cases z
theorem Made.step {H2 H' H4 : Hp} {D : Addr} {ds : List Dt} {y : V} {d : Dt} (hD : H2 D = none) (m : Made H2 S D ds H') (k : Same H' H4) (o : Oc H4 (And1 S D) y d) (hz : ds.length < 1000000) :
    ∃ acc, H4 D = some (.lst acc) ∧ acc.length < sizeLine ∧ Made H2 S D (ds ++ [d]) (upd H4 D (.lst (acc ++ [y]))) := by
  obtain ⟨vs, e, oc⟩ := m.acc
  refine ⟨vs, k _ _ e, Nat.lt_of_lt_of_le (show _ < 1000000 by rw [oc.len]; exact hz) (by decide), fun b o hb => ?_, _, upd_same, ((oc.same k).snoc o).put (.inr rfl)⟩
  rw [upd_ne (ne_of_none hb hD)]
  exact k _ _ (m.same _ _ hb)
theorem Made.done {H2 H' : Hp} {D : Addr} {ds : List Dt} (l : Lv H2 S) (hD : H2 D = none) (m : Made H2 S D ds H') : Oc H' S (.ref D) (.lst ds) := by
  obtain ⟨vs, e, oc⟩ := m.acc
  exact .lst e (Lv.out l hD) (oc.sub fun a h => .inl h)
theorem fm_len (ds : List Dt) (r : Dt → Option Dt) (i : Nat) (h : ds.length ≤ 999999) : ((ds.take i).filterMap r).length < 1000000 := by
  have := List.length_filterMap_le r (ds.take i)
  have := List.length_take_le i ds
  have := List.length_take_le' i ds
  omega
theorem fm_succ {ds : List Dt} {r : Dt → Option Dt} {i : Nat} {d : Dt} (h : ds[i]? = some d) : (ds.take (i + 1)).filterMap r = (ds.take i).filterMap r ++ (r d).toList := by
  rw [List.take_add_one, h, List.filterMap_append]
  show _ ++ List.filterMap r [d] = _
  cases e : r d <;> simp [List.filterMap, e]
section
variable {g : TG} {tt : TT} {te : TE} {vs : List Nat} {ds : List Dt} {r : Dt → Option Dt}
theorem D_lcL {tl : TE} (hl : DE tl σ H S (.lst ds)) (hz : ds.length ≤ 999999) (hs : ∀ v d H1 S1, d ∈ ds → Lift H S H1 S1 → Oc H1 S1 v d → Turn1 g tt te vs σ v H1 S1 (r d)) : DE (tLc (iList K tl) g tt te vs) σ H S (.lst (ds.filterMap r)) := fun H1 S1 Q x q =>
  hl H1 S1 _ x fun v H2 k o => by
    obtain ⟨a, xs, rfl, ea, na, oa⟩ := o.lst_inv
    have L2 := Lv.same k x.live
    refine ⟨a, rfl, ⟨_, SqL.of ea⟩, fun D hD => ?_⟩
    refine lc_list (K := K) (a := a) (xs := xs) (fun i H' => Made H2 S1 D ((ds.take i).filterMap r) H') (Made.nil hD) (fun i H' _ m => SqL.of (m.same _ _ ea)) ?_ ?_
    · intro i y H' hy m
      obtain ⟨d, hd, od⟩ := oa.get hy
      have lf := m.lift L2 hD
      refine hs y d H' _ (List.mem_of_getElem? hd) ((x.then k).trans lf) (lf.ob od) _ _ (fun z e H4 er k4 o4 => ?_) fun H4 er k4 => ?_
      · obtain ⟨acc, e1, e2, m2⟩ := m.step hD k4 o4 (fm_len ds r i hz)
        refine ⟨acc, e1, e2, ?_⟩
        rw [fm_succ hd, er]; exact m2
      · rw [fm_succ hd, er]
        show Made _ _ _ (_ ++ []) _
        rw [List.append_nil]
        obtain ⟨vs, e, oc⟩ := m.acc
        exact ⟨m.same.trans k4, vs, k4 _ _ e, oc.same k4⟩
    · intro H' m
      rw [oa.len, List.take_length] at m
      exact q _ _ (k.trans m.same) (m.done L2 hD)
theorem D_lcT {tl : TE} {z : Bool} (hl : DE tl σ H S (.tup z ds)) (hz : ds.length ≤ 999999) (hs : ∀ v d H1 S1, d ∈ ds → Lift H S H1 S1 → Oc H1 S1 v d → Turn1 g tt te vs σ v H1 S1 (r d)) : DE (tLc (iTup K tl) g tt te vs) σ H S (.lst (ds.filterMap r)) := fun H1 S1 Q x q =>
  hl H1 S1 _ x fun v H2 k o => by
    obtain ⟨a, xs, rfl, ea, na, oa⟩ := o.tup_inv
    have L2 := Lv.same k x.live
    refine ⟨a, rfl, ⟨_, ea.sq⟩, fun D hD => ?_⟩
    refine lc_tup (K := K) (a := a) (xs := xs) (fun i H' => Made H2 S1 D ((ds.take i).filterMap r) H') (Made.nil hD) (fun i H' _ m => (ea.same m.same).sq) ?_ ?_
    · intro i y H' hy m
      obtain ⟨d, hd, od⟩ := oa.get hy
      have lf := m.lift L2 hD
      refine hs y d H' _ (List.mem_of_getElem? hd) ((x.then k).trans lf) (lf.ob od) _ _ (fun z e H4 er k4 o4 => ?_) fun H4 er k4 => ?_
      · obtain ⟨acc, e1, e2, m2⟩ := m.step hD k4 o4 (fm_len ds r i hz)
        refine ⟨acc, e1, e2, ?_⟩
        rw [fm_succ hd, er]; exact m2
      · rw [fm_succ hd, er]
        show Made _ _ _ (_ ++ []) _
        rw [List.append_nil]
        obtain ⟨vs, e, oc⟩ := m.acc
        exact ⟨m.same.trans k4, vs, k4 _ _ e, oc.same k4⟩
    · intro H' m
      rw [oa.len, List.take_length] at m
      exact q _ _ (k.trans m.same) (m.done L2 hD)
end
/-- the ints below n -/
def upto (n : Nat) : List Dt := (List.range n).map fun i => Dt.int (i : Nat)
theorem upto_get {n i : Nat} (h : i < n) : (upto n)[i]? = some (.int (i : Nat)) := by
  unfold upto
  rw [List.getElem?_map, List.getElem?_range h]; rfl
theorem upto_len (n : Nat) : (upto n).length = n := by unfold upto; rw [List.length_map, List.length_range]
theorem D_lcR {g : TG} {tt : TT} {te tn : TE} {vs : List Nat} {n : Nat} {r : Dt → Option Dt} (hn : DE tn σ H S (.int (n : Nat))) (hz : n ≤ 999999) (hs : ∀ (i : Nat) H1 S1, i < n → Lift H S H1 S1 → Turn1 g tt te vs σ (.int (i : Nat)) H1 S1 (r (.int (i : Nat)))) : DE (tLc (iRng1 (tCons tn tNil)) g tt te vs) σ H S (.lst ((upto n).filterMap r)) := fun H1 S1 Q x q =>
  hn H1 S1 _ x fun v H2 k o => by
    have e := o.int_inv
    subst e
    have L2 := Lv.same k x.live
    refine ⟨_, rfl, by omega, by omega, fun D hD => ?_⟩
    have et : ((n : Nat) : Int).toNat = n := Int.toNat_natCast n
    rw [et]
    refine lc_range (lo := 0) (n := n) (fun i H' => Made H2 S1 D (((upto n).take i).filterMap r) H') (Made.nil hD) ?_ ?_
    · intro i H' hi m
      have lf := m.lift L2 hD
      rw [Int.zero_add]
      have hd := upto_get hi
      refine hs i H' _ hi ((x.then k).trans lf) _ _ (fun z e H4 er k4 o4 => ?_) fun H4 er k4 => ?_
      · obtain ⟨acc, e1, e2, m2⟩ := m.step hD k4 o4 (fm_len _ r i (by rw [upto_len]; exact hz))
        refine ⟨acc, e1, e2, ?_⟩
        rw [fm_succ hd, er]; exact m2
      · rw [fm_succ hd, er]
        show Made _ _ _ (_ ++ []) _
        rw [List.append_nil]
        obtain ⟨vs, e, oc⟩ := m.acc
        exact ⟨m.same.trans k4, vs, k4 _ _ e, oc.same k4⟩
    · intro H' m
      have e2 : (upto n).take n = upto n := List.take_of_length_le (by rw [upto_len]; exact Nat.le_refl _)
      rw [e2] at m
      exact q _ _ (k.trans m.same) (m.done L2 hD)
end
end Lc
namespace Lc
open PySem PySem.Spec PyProof.Rows L2 RZ PySem.W
section
variable {σ : L2.St} {H : Hp} {S : AS} {K : PySem.W.Frag}
/-! ### two clauses -/
theorem fm2_len (ds : List Dt) (f : Dt → List Dt) (h : ∀ d ∈ ds, (f d).length ≤ 500) : ∀ i, i ≤ 1000 → ((ds.take i).flatMap f).length ≤ i * 500
  | 0, _ => by simp
  | i + 1, hi => by
    have ih := fm2_len ds f h i (by omega)
    rw [List.take_add_one, List.flatMap_append, List.length_append]
    cases e : ds[i]? with
    | none => simp only [Option.toList_none, List.flatMap_nil, List.length_nil]; omega
    | some d =>
      have := h d (List.mem_of_getElem? e)
      simp only [Option.toList_some, List.flatMap_cons, List.flatMap_nil, List.append_nil]
      omega
theorem fm2_succ {ds : List Dt} {f : Dt → List Dt} {i : Nat} {d : Dt} (h : ds[i]? = some d) : (ds.take (i + 1)).flatMap f = (ds.take i).flatMap f ++ f d := by
  rw [List.take_add_one, h, List.flatMap_append]
  simp
theorem D_lc2LR {i0 i1 : Nat} {tt1 : TT} {te tl tn : TE} {ds : List Dt} {n : Dt → Nat} {r : Dt → Dt → Option Dt} (hl : DE tl σ H S (.lst ds)) (hz : ds.length ≤ 1000) (hz2 : ∀ d ∈ ds, n d ≤ 500)
    (hw : ∀ v : V, wipe ((wipe σ [i0, i1]).set i0 (some v)) [i0, i1] = wipe σ [i0, i1])
    (hn : ∀ v d H1 S1, d ∈ ds → Lift H S H1 S1 → Oc H1 S1 v d → DE tn ((wipe σ [i0, i1]).set i0 (some v)) H1 S1 (.int (n d : Nat)))
    (hs : ∀ v d H1 S1 (j : Nat), d ∈ ds → j < n d → Lift H S H1 S1 → Oc H1 S1 v d → Turn1 (gName i1) tt1 te [i1] ((wipe σ [i0, i1]).set i0 (some v)) (.int (j : Nat)) H1 S1 (r d (.int (j : Nat)))) :
    DE (tLc2 (iList K tl) (gName i0) tYes (iRng1 (tCons tn tNil)) (gName i1) tt1 te [i0, i1] [i1]) σ H S (.lst (ds.flatMap fun d => (upto (n d)).filterMap (r d))) := fun H1 S1 Q x q =>
  hl H1 S1 _ x fun v H2 k o => by
    obtain ⟨a, xs, rfl, ea, na, oa⟩ := o.lst_inv
    have L2 := Lv.same k x.live
    have hf : ∀ d ∈ ds, ((upto (n d)).filterMap (r d)).length ≤ 500 := fun d hd => by
      have h1 := List.length_filterMap_le (r d) (upto (n d))
      have h2 := hz2 d hd
      rw [upto_len] at h1
      omega
    refine ⟨a, rfl, ⟨_, SqL.of ea⟩, fun D hD => ?_⟩
    refine ⟨fun i m H' => m = xs.length - i ∧ i ≤ xs.length ∧ Made H2 S1 D ((ds.take i).flatMap fun d => (upto (n d)).filterMap (r d)) H', ⟨_, rfl, Nat.zero_le _, Made.nil hD⟩, ?_⟩
    rintro i m H' ⟨rfl, hi, md⟩
    by_cases lt : i < xs.length
    · have hy : xs[i]? = some xs[i] := List.getElem?_eq_getElem lt
      obtain ⟨d, hd, od⟩ := oa.get hy
      have dm := List.mem_of_getElem? hd
      refine .inr ⟨⟨xs, _, SqL.of (md.same _ _ ea), hy⟩, fun H3 => Made H2 S1 D ((ds.take (i + 1)).flatMap fun d => (upto (n d)).filterMap (r d)) H3, fun H3 h3 => ⟨_, by omega, rfl, lt, h3⟩, ?_⟩
      rintro y H3 ⟨rfl, fy⟩
      have ey : y = xs[i] := Option.some.inj ((fy _ (SqL.of (md.same _ _ ea))).symm.trans hy)
      subst ey
      have lf := md.lift L2 hD
      have lf2 := (x.then k).trans lf
      refine ⟨hw _, (hn _ d _ _ dm lf2 (lf.ob od)).go lf2.live fun u H4 k4 o4 => ?_⟩
      have eu := o4.int_inv
      subst eu
      have hb := hz2 d dm
      refine ⟨_, rfl, by omega, by omega, ?_⟩
      have et : ((n d : Nat) : Int).toNat = n d := Int.toNat_natCast _
      rw [et]
      refine ⟨fun j k H' => k = n d - j ∧ j ≤ n d ∧ Made H2 S1 D (((ds.take i).flatMap fun d => (upto (n d)).filterMap (r d)) ++ ((upto (n d)).take j).filterMap (r d)) H', ⟨_, rfl, Nat.zero_le _, ?_⟩, ?_⟩
      · obtain ⟨vs, e, oc⟩ := md.acc
        refine ⟨md.same.trans k4, vs, k4 _ _ e, ?_⟩
        simpa using oc.same k4
      rintro j kk H5 ⟨rfl, hj, md5⟩
      by_cases jl : j < n d
      · refine .inr ⟨jl, fun H6 => Made H2 S1 D (((ds.take i).flatMap fun d => (upto (n d)).filterMap (r d)) ++ ((upto (n d)).take (j + 1)).filterMap (r d)) H6, fun H6 h6 => ⟨_, by omega, rfl, jl, h6⟩, ?_⟩
        rintro y H6 ⟨rfl, rfl⟩
        rw [Int.zero_add]
        have lf5 := md5.lift L2 hD
        have hg := upto_get jl
        refine hs _ d _ _ j dm jl ((x.then k).trans lf5) (lf5.ob od) _ _ (fun z e H7 er k7 o7 => ?_) fun H7 er k7 => ?_
        · have sz : (((ds.take i).flatMap fun d => (upto (n d)).filterMap (r d)) ++ ((upto (n d)).take j).filterMap (r d)).length < 1000000 := by
            have h1 := fm2_len ds _ hf i (by rw [oa.len] at lt; omega)
            have h2 := List.length_filterMap_le (r d) ((upto (n d)).take j)
            have h3 := List.length_take_le j (upto (n d))
            rw [List.length_append]
            have h4 : i < 1000 := by rw [oa.len] at lt; omega
            have h5 : i * 500 ≤ 1000 * 500 := Nat.mul_le_mul_right _ (by omega)
            omega
          obtain ⟨acc, e1, e2, m2⟩ := md5.step hD k7 o7 sz
          refine ⟨acc, e1, e2, ?_⟩
          rw [fm_succ hg, er, ← List.append_assoc]; exact m2
        · rw [fm_succ hg, er]
          show Made _ _ _ (_ ++ (_ ++ [])) _
          rw [List.append_nil]
          obtain ⟨vs, e, oc⟩ := md5.acc
          exact ⟨md5.same.trans k7, vs, k7 _ _ e, oc.same k7⟩
      · have ej : j = n d := by omega
        subst ej
        refine .inl ⟨Nat.le_refl _, ?_⟩
        have e2 : (upto (n d)).take (n d) = upto (n d) := List.take_of_length_le (by rw [upto_len]; exact Nat.le_refl _)
        rw [e2] at md5
        rw [fm2_succ hd]; exact md5
    · have ei : i = xs.length := by omega
      subst ei
      rw [oa.len, List.take_length] at md
      exact .inl ⟨⟨xs, SqL.of (md.same _ _ ea), Nat.le_refl _⟩, q _ _ (k.trans md.same) (md.done L2 hD)⟩
end
/-! ### data that can be compared -/
mutual
def pd : Dt → PyData
  | .non => .none
  | .bl b => .bool b
  | .int i => .int i
  | .str s => .str s
  | .lst ds => .list (pdAll ds)
  | .tup _ ds => .tuple (pdAll ds)
  | .dic => .none
def pdAll : List Dt → List PyData
  | [] => []
  | d :: r => pd d :: pdAll r
end
theorem pdAll_map : ∀ ds : List Dt, pdAll ds = ds.map pd
  | [] => rfl
  | d :: r => by rw [pdAll, pdAll_map r]; rfl
mutual
theorem Oc.dp {K : PySem.W.Frag} {H : Hp} {S : AS} : ∀ {v : V} {d : Dt}, Oc H S v d → Dp K H v (pd d)
  | _, _, .non => .non
  | _, _, .bl b => .bl b
  | _, _, .int i => .int i
  | _, _, .str s => .str s
  | _, _, .lst e ne all => .lst (SqL.of e) (Ocs.dp all)
  | _, _, .tup e ne all => .tup e.sq (Ocs.dp all)
theorem Ocs.dp {K : PySem.W.Frag} {H : Hp} {S : AS} : ∀ {vs : List V} {ds : List Dt}, Ocs H S vs ds → DpAll K H vs (pdAll ds)
  | _, _, .nil => .nil
  | _, _, .cons h t => .cons (Oc.dp h) (Ocs.dp t)
end
def minL : List Int → Int
  | [] => 0
  | x :: r => r.foldl min x
def maxL : List Int → Int
  | [] => 0
  | x :: r => r.foldl max x
/-! ### min of a list, max of a tuple -/
def rMinD (K : PySem.W.Frag) : List V → Hp → VK → Prop := fun vs H Q => ∃ (a : Addr) (xs : List V) (d : PyData) (ds : List PyData), vs = [.ref a] ∧ SqL K H a xs ∧ DpAll K H xs (d :: ds) ∧ AlikeAll (d :: ds) ∧ PyData.depthAll (d :: ds) ≤ 16 ∧
  ∀ (i : Nat) (v : V), xs[i]? = some v → (d :: ds)[i]? = some (minD d ds) → Q v H
theorem dp_at {K : PySem.W.Frag} {H : Hp} : ∀ {vs : List V} {ds : List PyData} {i : Nat} {v : V}, DpAll K H vs ds → vs[i]? = some v → ∃ d, ds[i]? = some d ∧ Dp K H v d
  | _, _, _, _, .nil, e => by simp at e
  | _, _, 0, _, .cons h _, e => by
    have e := Option.some.inj (show some _ = some _ from e)
    subst e; exact ⟨_, rfl, h⟩
  | _, _, i + 1, x, .cons _ t, e => dp_at (i := i) t (by simpa using e)
theorem vals_at : ∀ {vs : List V} {us : List Value} {i : Nat} {u : Value}, Vals vs us → us[i]? = some u → ∃ v, vs[i]? = some v ∧ RelV v u
  | _, _, _, _, .nil, e => by simp at e
  | _, _, 0, _, .cons h _, e => by
    have e := Option.some.inj (show some _ = some _ from e)
    subst e; exact ⟨_, rfl, h⟩
  | _, _, i + 1, x, .cons _ t, e => vals_at (i := i) t (by simpa using e)
theorem cr_minD {X : Cx} (K : PySem.W.Frag) (hc : X.calm = true) (hu : X.A.units + 64 < cLine) (h : X.K = K := by rfl) : CallR X (.builtin "min") (rMinD K) := by
  subst h
  intro pins s σ H vs us Q I r h
  obtain ⟨a, xs, d, ds, rfl, hs, hd, al, dp, q⟩ := h
  obtain ⟨its, rv, pl, hz⟩ := I.list hs
  obtain ⟨as, ra⟩ := Dp.readsAll I _ _ _ hd rv
  rw [Vals.ref1 r]
  refine min_list_data (I.ok.hd hc) pl.isList (by simpa using ra) al (by omega) fun i v h' tk bs hv hr hk => ?_
  have hv' : its[i]? = some v := by rw [← hv]; simp
  obtain ⟨y, hy, ry⟩ := vals_at rv hv'
  obtain ⟨e, he, de⟩ := dp_at hd hy
  obtain ⟨cs, re⟩ := Dp.reads I _ _ _ de ry
  have ee := (PySem.Reads.unique (reads_keeps hk re) _ _ hr).1
  subst ee
  exact ⟨y, H, I.kept (t' := tk) hk, ry, q i y hy he⟩
def rMaxT (K : PySem.W.Frag) : List V → Hp → VK → Prop := fun vs H Q => ∃ (a : Addr) (n : Int) (ns : List Int), vs = [.ref a] ∧ SqT K H a ((n :: ns).map V.int) ∧ Q (.int (ns.foldl max n)) H
theorem alike_int_all (ns : List Int) : AlikeAll (ns.map PyData.int) := by
  refine ⟨fun x hx y hy => ?_, fun x hx => ?_⟩
  · obtain ⟨i, _, rfl⟩ := List.mem_map.mp hx
    obtain ⟨j, _, rfl⟩ := List.mem_map.mp hy
    rfl
  · obtain ⟨i, _, rfl⟩ := List.mem_map.mp hx
    exact fun z => nomatch z
theorem dp_ints {K : PySem.W.Frag} {H : Hp} : ∀ ns : List Int, DpAll K H (ns.map V.int) (ns.map PyData.int)
  | [] => .nil
  | n :: r => .cons (.int n) (dp_ints r)
theorem cr_maxT {X : Cx} (K : PySem.W.Frag) (hc : X.calm = true) (hu : X.A.units + 64 < cLine) (h : X.K = K := by rfl) : CallR X (.builtin "max") (rMaxT K) := by
  subst h
  intro pins s σ H vs us Q I r h
  obtain ⟨a, n, ns, rfl, hs, q⟩ := h
  obtain ⟨its, rv, pl, hz⟩ := I.tuple hs
  obtain ⟨as, ra⟩ := Dp.readsAll I ((n :: ns).map .int) _ _ (dp_ints _) rv
  rw [Vals.ref1 r]
  have dz : PyData.depthAll (PyData.int n :: ns.map PyData.int) = 0 := depth_ints (n :: ns)
  refine max_tuple_data (x := .int n) (xs := ns.map .int) (I.ok.hd hc) pl (by simpa using ra) (alike_int_all (n :: ns)) (by rw [dz]; omega) fun i v h' tk bs hv hr hk => ?_
  rw [maxD_ints] at hr
  obtain ⟨t, rfl, _⟩ := reads_int_inv hr
  exact ⟨.int _, H, I.kept (t' := tk) hk, ⟨t, rfl⟩, q⟩
/-! ### rows of ints -/
def intT' (ns : List Int) : Dt := .tup true (ns.map Dt.int)
def intP (ns : List Int) : PyData := .tuple (ns.map PyData.int)
theorem pd_intT (ns : List Int) : pd (intT' ns) = intP ns := by
  show PyData.tuple (pdAll (ns.map Dt.int)) = _
  rw [pdAll_map, List.map_map]; rfl
def ltI : List Int → List Int → Bool
  | [], [] => false
  | [], _ :: _ => true
  | _ :: _, [] => false
  | x :: r, y :: t => decide (x < y) || (decide (x = y) && ltI r t)
theorem toks_intP (ns : List Int) : keyToks (intP ns) = keyToksAll (ns.map PyData.int) := by unfold intP; rw [keyToks]
theorem lt_toks : ∀ a b : List Int, PyProof.Rows.lexLt itemOrd (keyToksAll (a.map PyData.int)) (keyToksAll (b.map PyData.int)) = ltI a b
  | [], [] => by decide
  | [], y :: t => by
    rw [List.map_nil, List.map_cons, toks_all_cons, keyToksAll, lex_diff (O := itemOrd) (by intro z; cases z)]
    rfl
  | x :: r, [] => by
    rw [List.map_nil, List.map_cons, toks_all_cons, keyToksAll, lex_diff (O := itemOrd) (by intro z; cases z)]
    rfl
  | x :: r, y :: t => by
    rw [List.map_cons, List.map_cons, toks_all_cons, toks_all_cons, lex_self (O := itemOrd), keyToks, keyToks]
    show PyProof.Rows.lexLt itemOrd (Sum.inl x :: keyToksAll (r.map PyData.int)) (Sum.inl y :: keyToksAll (t.map PyData.int)) = _
    by_cases e : x = y
    · subst e
      rw [lex_self (O := itemOrd), lt_toks r t]
      simp [ltI]
    · rw [lex_diff (O := itemOrd) (fun z => e (Sum.inl.inj z))]
      show decide (x < y) = _
      simp [ltI, e]
theorem lt_rows (a b : List Int) : dataLt (intP a) (intP b) = ltI a b := by
  unfold dataLt
  rw [toks_intP, toks_intP, lt_toks]
def minR (x : List Int) (xs : List (List Int)) : List Int := xs.foldl (fun a y => if ltI y a then y else a) x
theorem min_rows (x : List Int) : ∀ xs : List (List Int), minD (intP x) (xs.map intP) = intP (minR x xs) := by
  intro xs
  unfold minD minR
  induction xs generalizing x with
  | nil => rfl
  | cons y r ih =>
    rw [List.map_cons, List.foldl_cons, List.foldl_cons, lt_rows]
    by_cases h : ltI y x = true
    · rw [if_pos h, if_pos h]; exact ih y
    · rw [if_neg h, if_neg h]; exact ih x
theorem alike_rows (rows : List (List Int)) : AlikeAll (rows.map intP) := by
  refine ⟨fun x hx y hy => ?_, fun x hx => ?_⟩
  · obtain ⟨i, _, rfl⟩ := List.mem_map.mp hx
    obtain ⟨j, _, rfl⟩ := List.mem_map.mp hy
    show alike (.tuple _) (.tuple _) = true
    rw [alike]; exact alike_ints i j
  · obtain ⟨i, _, rfl⟩ := List.mem_map.mp hx
    exact fun z => nomatch z
theorem depth_rows : ∀ rows : List (List Int), PyData.depthAll (rows.map intP) ≤ 1
  | [] => by simp [PyData.depthAll]
  | x :: r => by
    rw [List.map_cons, PyData.depthAll]
    have h := depth_rows r
    have h2 : PyData.depth (intP x) = 1 := by unfold intP; rw [PyData.depth, depth_ints]
    omega
theorem intP_inj {a b : List Int} (h : intP a = intP b) : a = b := by
  have h1 := PyData.tuple.inj h
  induction a generalizing b with
  | nil =>
    cases b with
    | nil => rfl
    | cons y t => simp at h1
  | cons x r ih =>
    cases b with
    | nil => simp at h1
    | cons y t =>
      simp only [List.map_cons, List.cons.injEq, PyData.int.injEq] at h1
      rw [h1.1, ih (by unfold intP; rw [h1.2]) h1.2]
theorem ocs_rows_dp {K : PySem.W.Frag} {H : Hp} {S : AS} {xs : List V} {rows : List (List Int)} (h : Ocs H S xs (rows.map intT')) : DpAll K H xs (rows.map intP) := by
  have := h.dp (K := K)
  rw [pdAll_map, List.map_map] at this
  have e : (rows.map (pd ∘ intT')) = rows.map intP := List.map_congr_left fun x _ => pd_intT x
  rw [e] at this
  exact this
theorem D_minRows {σ : L2.St} {H : Hp} {S : AS} {K : PySem.W.Frag} {tl : TE} {x : List Int} {xs : List (List Int)} (hl : DE tl σ H S (.lst ((x :: xs).map intT'))) : DE (tCB (rMinD K) (tCons tl tNil)) σ H S (intT' (minR x xs)) := fun H1 S1 Q y q =>
  hl H1 S1 _ y fun v H2 k o => by
    obtain ⟨a, ys, rfl, ea, na, oa⟩ := o.lst_inv
    refine ⟨a, ys, intP x, xs.map intP, rfl, SqL.of ea, ocs_rows_dp oa, alike_rows (x :: xs), Nat.le_trans (depth_rows (x :: xs)) (by decide), fun i v hv hm => ?_⟩
    obtain ⟨d, hd, od⟩ := oa.get hv
    rw [List.getElem?_map] at hd
    obtain ⟨row, hr, rfl⟩ := Option.map_eq_some_iff.mp hd
    have hm2 : ((x :: xs).map intP)[i]? = some (minD (intP x) (xs.map intP)) := hm
    rw [List.getElem?_map, hr, min_rows] at hm2
    have e := intP_inj (Option.some.inj hm2)
    subst e
    exact q _ _ k od
/-! ### == of data -/
theorem op_eqDK {X : Cx} (K : PySem.W.Frag) (hu : X.A.units + 64 < cLine) (h : X.K = K := by rfl) : OpR X (compareOp .Eq) (rEqD K) := h ▸ op_eqD hu
theorem op_neDK {X : Cx} (K : PySem.W.Frag) (hu : X.A.units + 64 < cLine) (h : X.K = K := by rfl) : OpR X (compareOp .NotEq) (rNeD K) := h ▸ op_neD hu
theorem op_ninK {X : Cx} (K : PySem.W.Frag) (h : X.K = K := by rfl) : OpR X (compareOp .NotIn) (rIn K true) := h ▸ op_notIn_seq
theorem op_inK {X : Cx} (K : PySem.W.Frag) (h : X.K = K := by rfl) : OpR X (compareOp .In) (rIn K false) := h ▸ op_in_seq
theorem shaped_row (a : List Int) : SeqAt.shaped (intP a) = true := by
  unfold SeqAt.shaped intP
  have e : PyData.canLayAll0 (a.map PyData.int) = true := by
    induction a with
    | nil => rfl
    | cons x r ih => rw [List.map_cons, PyData.canLayAll0, ih]; rfl
  rw [PyData.canLay0, e, PyData.depth, depth_ints]; rfl
theorem eqv_ints : ∀ a b : List Int, PyData.eqvAll (a.map PyData.int) (b.map PyData.int) = decide (a = b)
  | [], [] => by decide
  | [], y :: t => by simp [PyData.eqvAll]
  | x :: r, [] => by simp [PyData.eqvAll]
  | x :: r, y :: t => by
    rw [List.map_cons, List.map_cons, eqv_all_cons, eqv_ints r t]
    by_cases h : x = y
    · subst h
      have : PyData.eqv (.int x) (.int x) = true := by simp [PyData.eqv]
      rw [this]; simp
    · have : PyData.eqv (.int x) (.int y) = false := by simp [PyData.eqv, h]
      rw [this]; simp [h]
theorem eqv_rows (a b : List Int) : PyData.eqv (intP a) (intP b) = decide (a = b) := by
  unfold intP
  rw [PyData.eqv, eqv_ints]
theorem T_eqRow {σ : L2.St} {H : Hp} {S : AS} {K : PySem.W.Frag} {ta tb : TE} {a b : List Int} (ha : DE ta σ H S (intT' a)) (hb : DE tb σ H S (intT' b)) : DT (tTest (tOp (rEqD K) ta tb)) σ H S (decide (a = b)) := fun H1 S1 Q x q =>
  ha H1 S1 _ x fun v H2 k o => (hb.lift (x.then k)).go (Lv.same k x.live) fun u H3 k3 o3 => by
    have e1 := (o.same k3).dp (K := K)
    have e2 := o3.dp (K := K)
    rw [pd_intT] at e1 e2
    refine ⟨_, _, e1, e2, shaped_row a, shaped_row b, _, rfl, ?_⟩
    rw [eqv_rows]
    exact q _ (k.trans k3)
theorem op_catFK {X : Cx} (K : PySem.W.Frag) (h : X.K = K := by rfl) : OpR X (binaryOp .Add) (rCatF K) := h ▸ op_catF
theorem pi_listK {X : Cx} (K : PySem.W.Frag) {tg l : Expr} {tl : TE} (hl : PE X l tl) (h : X.K = K := by rfl) : PI X tg l (iList K tl) := h ▸ pi_list hl
theorem pi_tupK {X : Cx} (K : PySem.W.Frag) {tg l : Expr} {tl : TE} (hl : PE X l tl) (h : X.K = K := by rfl) : PI X tg l (iTup K tl) := h ▸ pi_tup hl
theorem pe_tupleOfFK {X : Cx} (K : PySem.W.Frag) {a : Expr} {ta : TE} {p pos : Pos} (hg : Gl X "tuple") (hm : X.mg "tuple" = none) (ha : PE X a ta) (h : X.K = K := by rfl) (na : starEach [a] X.env = (false, eval a X.env) :: starEach [] X.env := by rfl) : PE X (.Call (.Name "tuple" p) [a] [] pos) (tTupOfF K ta) := h ▸ pe_tupleOfF hg hm ha na
theorem cr_allK {X : Cx} (K : PySem.W.Frag) (hc : X.calm = true) (h : X.K = K := by rfl) : CallR X (.builtin "all") (rAll K) := h ▸ cr_all hc
theorem cr_anyK {X : Cx} (K : PySem.W.Frag) (hc : X.calm = true) (h : X.K = K := by rfl) : CallR X (.builtin "any") (rAny K) := h ▸ cr_any hc
theorem minL_of {ns : List Int} {m : Int} (hm : m ∈ ns) (h : ∀ y ∈ ns, m ≤ y) : m = minL ns := by
  cases ns with
  | nil => cases hm
  | cons x r =>
    have key : ∀ (r : List Int) (x : Int), (r.foldl min x ∈ x :: r) ∧ ∀ y ∈ x :: r, r.foldl min x ≤ y := by
      intro r
      induction r with
      | nil => intro x; exact ⟨List.mem_singleton.mpr rfl, fun y hy => by rw [List.mem_singleton.mp hy]; exact Int.le_refl _⟩
      | cons z t ih =>
        intro x
        obtain ⟨a, b⟩ := ih (min x z)
        rw [List.foldl_cons]
        refine ⟨?_, fun y hy => ?_⟩
        · rcases List.mem_cons.mp a with e | e
          · rcases Int.le_total x z with h | h
            · rw [e, Int.min_eq_left h]; exact List.mem_cons_self
            · rw [e, Int.min_eq_right h]; exact List.mem_cons_of_mem _ List.mem_cons_self
          · exact List.mem_cons_of_mem _ (List.mem_cons_of_mem _ e)
        · have hb := b _ List.mem_cons_self
          rcases List.mem_cons.mp hy with rfl | hy
          · omega
          · rcases List.mem_cons.mp hy with rfl | hy
            · omega
            · exact b _ (List.mem_cons_of_mem _ hy)
    obtain ⟨a, b⟩ := key r x
    show m = r.foldl min x
    have h1 := h _ a
    have h2 := b _ hm
    omega
theorem D_minInts {σ : L2.St} {H : Hp} {S : AS} {K : PySem.W.Frag} {tl : TE} {ns : List Int} (hl : DE tl σ H S (.lst (ns.map Dt.int))) (hne : ns ≠ []) : DE (tCB (rMin K) (tCons tl tNil)) σ H S (.int (minL ns)) := fun H1 S1 Q y q =>
  hl H1 S1 _ y fun v H2 k o => by
    obtain ⟨a, ys, rfl, ea, na, oa⟩ := o.lst_inv
    have e := oa.ints
    subst e
    refine ⟨a, ns, rfl, SqL.of ea, List.length_pos_iff.mpr hne, fun m hm hle => ?_⟩
    rw [minL_of hm hle]
    exact q _ _ k (.int _)
theorem D_fn {sp : Sp} {E : XK} {ta : TA} {σ : L2.St} {H : Hp} {S : AS} {ds : List Dt} {d : Dt} (ha : DA ta σ H S ds) (h : ∀ H1 S1 vs (Q : VK), Lift H S H1 S1 → Ocs H1 S1 vs ds → (∀ v H2, Same H1 H2 → Oc H2 S1 v d → Q v H2) → sp vs H1 Q E) : DE (tCall sp [] E ta) σ H S d := fun H1 S1 Q x q =>
  ha H1 S1 _ x fun vs H2 k o => by
    show sp (vs ++ []) H2 Q E
    rw [List.append_nil]
    exact h H2 S1 vs Q (x.then k) o fun v H3 k3 o3 => q _ _ (k.trans k3) o3
theorem Ocs.one {H : Hp} {S : AS} {vs : List V} {d : Dt} (h : Ocs H S vs [d]) : ∃ v, vs = [v] ∧ Oc H S v d := by
  cases h with
  | cons h t => cases t; exact ⟨_, rfl, h⟩
theorem Ocs.two {H : Hp} {S : AS} {vs : List V} {d e : Dt} (h : Ocs H S vs [d, e]) : ∃ v u, vs = [v, u] ∧ Oc H S v d ∧ Oc H S u e := by
  cases h with
  | cons h t =>
    obtain ⟨u, rfl, o⟩ := t.one
    exact ⟨_, _, rfl, h, o⟩
theorem Ocs.three {H : Hp} {S : AS} {vs : List V} {d e f : Dt} (h : Ocs H S vs [d, e, f]) : ∃ v u x, vs = [v, u, x] ∧ Oc H S v d ∧ Oc H S u e ∧ Oc H S x f := by
  cases h with
  | cons h t =>
    obtain ⟨u, x, rfl, o, p⟩ := t.two
    exact ⟨_, _, _, rfl, h, o, p⟩
theorem le_maxL {ns : List Int} {m : Int} (hm : m ∈ ns) : m ≤ maxL ns := by
  cases ns with
  | nil => cases hm
  | cons x r =>
    have key : ∀ (r : List Int) (x : Int), ∀ y ∈ x :: r, y ≤ r.foldl max x := by
      intro r
      induction r with
      | nil => intro x y hy; rw [List.mem_singleton.mp hy]; exact Int.le_refl _
      | cons z t ih =>
        intro x y hy
        have b := ih (max x z)
        rw [List.foldl_cons]
        have hb := b _ List.mem_cons_self
        rcases List.mem_cons.mp hy with rfl | hy
        · omega
        · rcases List.mem_cons.mp hy with rfl | hy
          · omega
          · exact b _ (List.mem_cons_of_mem _ hy)
    exact key r x m hm
theorem D_maxInts {σ : L2.St} {H : Hp} {S : AS} {K : PySem.W.Frag} {tl : TE} {ns : List Int} {m : Nat} (hl : DE tl σ H S (intT' ns)) (hm : maxL ns = m) (hne : ns ≠ [] := by first | assumption | (rintro rfl; simp_all)) : DE (tCB (rMaxT K) (tCons tl tNil)) σ H S (.int (m : Nat)) := fun H1 S1 Q y q =>
  hl H1 S1 _ y fun v H2 k o => by
    obtain ⟨a, ys, rfl, ea, na, oa⟩ := o.tup_inv
    have e := oa.ints
    subst e
    cases ns with
    | nil => exact absurd rfl hne
    | cons x r => exact ⟨a, x, r, rfl, ea.sq, q _ _ k (by rw [← hm]; exact .int _)⟩
theorem D_catL {σ : L2.St} {H : Hp} {S : AS} {ta tb : TE} {ds es : List Dt} (ha : DE ta σ H S (.lst ds)) (hb : DE tb σ H S (.lst es)) (hz : ds.length + es.length ≤ 1000000) : DE (tOp rCat ta tb) σ H S (.lst (ds ++ es)) := fun H1 S1 Q x q =>
  ha H1 S1 _ x fun v H2 k o => (hb.lift (x.then k)).go (Lv.same k x.live) fun u H3 k3 o3 => by
    obtain ⟨a, xs, rfl, ea, na, oa⟩ := o.lst_inv
    obtain ⟨b, ys, rfl, eb, nb, ob⟩ := o3.lst_inv
    have la := oa.len
    have lb := ob.len
    have oa' := oa.same k3
    refine ⟨a, b, xs, ys, rfl, rfl, k3 _ _ ea, eb, Nat.le_trans (show _ ≤ 1000000 by omega) (by decide), fun p hp => ?_⟩
    exact q _ _ ((k.trans k3).trans (same_upd hp)) (.lst upd_same (Lv.out (Lv.same k3 (Lv.same k x.live)) hp) ((oa'.append ob).same (same_upd hp)))
theorem fl_len {α : Type} (ds : List α) (f : α → List (List Int)) (m : Nat) (h : ∀ d ∈ ds, (f d).length ≤ m) : (ds.flatMap f).length ≤ ds.length * m := by
  induction ds with
  | nil => simp
  | cons d r ih =>
    have h1 := ih fun y hy => h y (List.mem_cons_of_mem _ hy)
    have h2 := h d List.mem_cons_self
    rw [List.flatMap_cons, List.length_append, List.length_cons, Nat.succ_mul]
    omega
theorem D_call {te : TE} {σ : L2.St} {H : Hp} {S : AS} {d : Dt} (h : ∀ (H1 : Hp) (S1 : AS) (Q : VK), Lift H S H1 S1 → (∀ v H2, Same H1 H2 → Oc H2 S1 v d → Q v H2) → te σ H1 Q) : DE te σ H S d := h
theorem S_setQ {te : TE} {i : Nat} {σ : L2.St} {H : Hp} {u : TS} {D : Ends} (h : te σ H fun v H2 => u D (σ.set i (some v)) H2) : tSeq (tAsg te (gName i)) u D σ H := h
/-- >= of data -/
def rGeD (K : PySem.W.Frag) : R2 := fun x y H Q => ∃ d e, Dp K H x d ∧ Dp K H y e ∧ alike d e = true ∧ d ≠ .none ∧ min d.depth e.depth ≤ 32 ∧ Q (.bl (!dataLt d e)) H
theorem op_geD {X : Cx} (K : PySem.W.Frag) (hu : X.A.units + 64 < cLine) (h : X.K = K := by rfl) : OpR X (compareOp .GtE) (rGeD K) := by
  subst h
  intro pins s σ H x y v u Q I rx ry h
  obtain ⟨d, e, hd, he, al, nn, dp, q⟩ := h
  obtain ⟨as, r1⟩ := Dp.reads I d x v hd rx
  obtain ⟨bs, r2⟩ := Dp.reads I e y u he ry
  exact ge_data r1 r2 al nn (by omega) ⟨.bl _, H, I, rfl, q⟩
theorem op_inDK {X : Cx} (K : PySem.W.Frag) (hu : X.A.units + 65 < cLine) (h : X.K = K := by rfl) : OpR X (compareOp .In) (rInD K) := h ▸ op_inD hu
theorem any_rows (a : List Int) : ∀ rows : List (List Int), ((rows.map intP).any fun z => PyData.eqv z (intP a)) = decide (a ∈ rows)
  | [] => rfl
  | r :: t => by
    rw [List.map_cons, List.any_cons, any_rows a t, eqv_rows]
    by_cases h : r = a
    · subst h; simp
    · have h2 : ¬ a = r := fun z => h z.symm
      simp [h, h2]
theorem shaped_rows (rows : List (List Int)) : SeqAt.shaped (.list (rows.map intP)) = true := by
  unfold SeqAt.shaped
  have e : PyData.canLayAll0 (rows.map intP) = true := by
    induction rows with
    | nil => rfl
    | cons x r ih =>
      rw [List.map_cons, PyData.canLayAll0, ih]
      have h := shaped_row x
      unfold SeqAt.shaped at h
      rw [Bool.and_eq_true] at h
      rw [h.1]; rfl
  have d := depth_rows rows
  rw [PyData.canLay0, e, PyData.depth, Bool.true_and, decide_eq_true_eq]
  omega
theorem T_inRows {σ : L2.St} {H : Hp} {S : AS} {K : PySem.W.Frag} {ta tb : TE} {a : List Int} {rows : List (List Int)} (ha : DE ta σ H S (intT' a)) (hb : DE tb σ H S (.lst (rows.map intT'))) : DT (tTest (tOp (rInD K) ta tb)) σ H S (decide (a ∈ rows)) := fun H1 S1 Q x q =>
  ha H1 S1 _ x fun v H2 k o => (hb.lift (x.then k)).go (Lv.same k x.live) fun u H3 k3 o3 => by
    have e1 := (o.same k3).dp (K := K)
    rw [pd_intT] at e1
    obtain ⟨b, ys, rfl, eb, nb, ob⟩ := o3.lst_inv
    refine ⟨intP a, rows.map intP, e1, .lst (SqL.of eb) (ocs_rows_dp ob), shaped_row a, shaped_rows rows, _, rfl, ?_⟩
    rw [any_rows]
    exact q _ (k.trans k3)
theorem units65 {k : Nat} {A : Around} (r : Room k A) : A.units + 65 < cLine := by have := r.un; omega
theorem eqv_lrows : ∀ a b : List (List Int), PyData.eqvAll (a.map intP) (b.map intP) = decide (a = b)
  | [], [] => by decide
  | [], y :: t => by simp [PyData.eqvAll]
  | x :: r, [] => by simp [PyData.eqvAll]
  | x :: r, y :: t => by
    rw [List.map_cons, List.map_cons, eqv_all_cons, eqv_lrows r t, eqv_rows]
    by_cases h : x = y
    · subst h; simp
    · simp [h]
theorem eqv_lists (a b : List (List Int)) : PyData.eqv (.list (a.map intP)) (.list (b.map intP)) = decide (a = b) := by rw [PyData.eqv, eqv_lrows]
theorem Oc.rows_dp {H : Hp} {S : AS} {K : PySem.W.Frag} {v : V} {rows : List (List Int)} (h : Oc H S v (.lst (rows.map intT'))) : Dp K H v (.list (rows.map intP)) := by
  obtain ⟨a, xs, rfl, ea, na, oa⟩ := h.lst_inv
  exact .lst (SqL.of ea) (ocs_rows_dp oa)
theorem D_eqL {σ : L2.St} {H : Hp} {S : AS} {K : PySem.W.Frag} {ta tb : TE} {a b : List (List Int)} (ha : DE ta σ H S (.lst (a.map intT'))) (hb : DE tb σ H S (.lst (b.map intT'))) : DE (tOp (rEqD K) ta tb) σ H S (.bl (decide (a = b))) := fun H1 S1 Q x q =>
  ha H1 S1 _ x fun v H2 k o => (hb.lift (x.then k)).go (Lv.same k x.live) fun u H3 k3 o3 => by
    refine ⟨_, _, (o.same k3).rows_dp, o3.rows_dp, shaped_rows a, shaped_rows b, ?_⟩
    rw [eqv_lists]
    exact q _ _ (k.trans k3) (.bl _)
theorem T_neRow {σ : L2.St} {H : Hp} {S : AS} {K : PySem.W.Frag} {ta tb : TE} {a b : List Int} (ha : DE ta σ H S (intT' a)) (hb : DE tb σ H S (intT' b)) : DT (tTest (tOp (rNeD K) ta tb)) σ H S (!decide (a = b)) := fun H1 S1 Q x q =>
  ha H1 S1 _ x fun v H2 k o => (hb.lift (x.then k)).go (Lv.same k x.live) fun u H3 k3 o3 => by
    have e1 := (o.same k3).dp (K := K)
    have e2 := o3.dp (K := K)
    rw [pd_intT] at e1 e2
    refine ⟨_, _, e1, e2, shaped_row a, shaped_row b, _, rfl, ?_⟩
    rw [eqv_rows]
    exact q _ (k.trans k3)
theorem DT.go {tt : TT} {σ : L2.St} {H : Hp} {S : AS} {b : Bool} {Q : Bool → Hp → Prop} (h : DT tt σ H S b) (l : Lv H S) (q : ∀ H2, Same H H2 → Q b H2) : tt σ H Q := h H S Q (Lift.refl l) q
theorem T_geRow {σ : L2.St} {H : Hp} {S : AS} {K : PySem.W.Frag} {ta tb : TE} {a b : List Int} (ha : DE ta σ H S (intT' a)) (hb : DE tb σ H S (intT' b)) : DT (tTest (tOp (rGeD K) ta tb)) σ H S (!ltI a b) := fun H1 S1 Q x q =>
  ha H1 S1 _ x fun v H2 k o => (hb.lift (x.then k)).go (Lv.same k x.live) fun u H3 k3 o3 => by
    have e1 := (o.same k3).dp (K := K)
    have e2 := o3.dp (K := K)
    rw [pd_intT] at e1 e2
    refine ⟨_, _, e1, e2, (alike_rows [a, b]).1 _ (by simp) _ (by simp), fun z => (by unfold intP at z; exact nomatch z), ?_, _, rfl, ?_⟩
    · have h2 : PyData.depth (intP a) = 1 := by unfold intP; rw [PyData.depth, depth_ints]
      omega
    · rw [lt_rows]
      exact q _ (k.trans k3)
theorem S_set {te : TE} {i : Nat} {σ : L2.St} {H : Hp} {S : AS} {d : Dt} {u : TS} {D : Ends} (h : DE te σ H S d) (lv : Lv H S) (k : ∀ v H2, Same H H2 → Oc H2 S v d → u D (σ.set i (some v)) H2) : tSeq (tAsg te (gName i)) u D σ H := h.go lv k
theorem S_set1 {te : TE} {i : Nat} {σ : L2.St} {H : Hp} {S : AS} {d : Dt} {D : Ends} (h : DE te σ H S d) (lv : Lv H S) (k : ∀ v H2, Same H H2 → Oc H2 S v d → D.nx (σ.set i (some v)) H2) : tAsg te (gName i) D σ H := h.go lv k
theorem S_ret {te : TE} {σ : L2.St} {H : Hp} {S : AS} {d : Dt} {D : Ends} (h : DE te σ H S d) (lv : Lv H S) (k : ∀ v H2, Same H H2 → Oc H2 S v d → D.rt v H2) : tRet te D σ H := h.go lv k
/-- i not in (a tuple of ints) -/
theorem inV_ints (i : Int) : ∀ ns : List Int, inV (.int i) (ns.map V.int) = decide (i ∈ ns)
  | [] => rfl
  | n :: r => by
    have ih := inV_ints i r
    unfold inV at ih ⊢
    rw [List.map_cons, List.any_cons, ih]
    show ((n == i) || decide (i ∈ r)) = decide (i ∈ n :: r)
    by_cases e : n = i
    · subst e; simp
    · have e2 : (n == i) = false := beq_eq_false_iff_ne.mpr e
      have e3 : ¬ i = n := fun z => e z.symm
      rw [e2, Bool.false_or]
      simp [e3]
theorem flat_ints : ∀ ns : List Int, (ns.map V.int).all flatV = true
  | [] => rfl
  | n :: r => by rw [List.map_cons, List.all_cons, flat_ints r]; rfl
theorem T_nin {σ : L2.St} {H : Hp} {S : AS} {K : PySem.W.Frag} {ta tb : TE} {i : Int} {ns : List Int} (ha : DE ta σ H S (.int i)) (hb : DE tb σ H S (intT' ns)) : DT (tTest (tOp (rIn K true) ta tb)) σ H S (!decide (i ∈ ns)) := fun H1 S1 Q x q =>
  ha H1 S1 _ x fun v H2 k o => (hb.lift (x.then k)).go (Lv.same k x.live) fun u H3 k3 o3 => by
    have e := o.int_inv
    subst e
    obtain ⟨a, xs, rfl, ea, na, oa⟩ := o3.tup_inv
    have ex := oa.ints
    subst ex
    refine ⟨a, _, rfl, .inr ea.sq, rfl, flat_ints ns, _, rfl, ?_⟩
    have e : (if true = true then !inV (V.int i) (ns.map V.int) else inV (V.int i) (ns.map V.int)) = !decide (i ∈ ns) := by
      rw [if_pos rfl, inV_ints]
    rw [e]
    exact q _ (k.trans k3)
/-- t[i] -/
theorem D_ixT {σ : L2.St} {H : Hp} {S : AS} {K : PySem.W.Frag} {ta tb : TE} {ds : List Dt} {z : Bool} {i : Nat} {d : Dt} (ha : DE ta σ H S (.tup z ds)) (hb : DE tb σ H S (.int (i : Nat))) (hd : ds[i]? = some d) : DE (tOp (rIxT K) ta tb) σ H S d := fun H1 S1 Q x q =>
  ha H1 S1 _ x fun v H2 k o => (hb.lift (x.then k)).go (Lv.same k x.live) fun u H3 k3 o3 => by
    have e := o3.int_inv
    subst e
    obtain ⟨a, xs, rfl, ea, na, oa⟩ := (o.same k3).tup_inv
    obtain ⟨w, hw, ow⟩ := oa.at hd
    exact ⟨a, xs, _, w, rfl, rfl, ea.sq, atI_nat hw, q _ _ (k.trans k3) ow⟩
theorem D_ixL {σ : L2.St} {H : Hp} {S : AS} {K : PySem.W.Frag} {ta tb : TE} {ds : List Dt} {i : Nat} {d : Dt} (ha : DE ta σ H S (.lst ds)) (hb : DE tb σ H S (.int (i : Nat))) (hd : ds[i]? = some d) : DE (tOp (rIxL K) ta tb) σ H S d := fun H1 S1 Q x q =>
  ha H1 S1 _ x fun v H2 k o => (hb.lift (x.then k)).go (Lv.same k x.live) fun u H3 k3 o3 => by
    have e := o3.int_inv
    subst e
    obtain ⟨a, xs, rfl, ea, na, oa⟩ := (o.same k3).lst_inv
    obtain ⟨w, hw, ow⟩ := oa.at hd
    exact ⟨a, xs, _, w, rfl, rfl, SqL.of ea, atI_nat hw, q _ _ (k.trans k3) ow⟩
end Lc
namespace Lc
open PySem PySem.Spec PyProof.Rows L2 RZ PySem.W
/-! ### ints, each once, ascending -/
def insU (x : Int) : List Int → List Int
  | [] => [x]
  | y :: r => if x < y then x :: y :: r else if x = y then y :: r else y :: insU x r
def sortU (xs : List Int) : List Int := xs.foldr insU []
theorem mem_insU {x k : Int} : ∀ {r : List Int}, k ∈ insU x r ↔ k = x ∨ k ∈ r
  | [] => by simp [insU]
  | y :: r => by
    unfold insU
    split
    · simp
    · split
      · rename_i h; subst h; simp
      · rw [List.mem_cons, mem_insU, List.mem_cons]
        constructor
        · rintro (h | h | h)
          · exact .inr (.inl h)
          · exact .inl h
          · exact .inr (.inr h)
        · rintro (h | h | h)
          · exact .inr (.inl h)
          · exact .inl h
          · exact .inr (.inr h)
theorem mem_sortU {k : Int} : ∀ {xs : List Int}, k ∈ sortU xs ↔ k ∈ xs
  | [] => by simp [sortU]
  | x :: r => by
    show k ∈ insU x (sortU r) ↔ _
    rw [mem_insU, mem_sortU, List.mem_cons]
theorem pw_insU {x : Int} : ∀ {r : List Int}, r.Pairwise (· < ·) → (insU x r).Pairwise (· < ·)
  | [], _ => by simp [insU]
  | y :: r, h => by
    obtain ⟨h1, h2⟩ := List.pairwise_cons.mp h
    unfold insU
    split
    · rename_i lt
      refine List.pairwise_cons.mpr ⟨fun z hz => ?_, h⟩
      rcases List.mem_cons.mp hz with rfl | hz
      · exact lt
      · exact Int.lt_trans lt (h1 z hz)
    · split
      · exact h
      · refine List.pairwise_cons.mpr ⟨fun z hz => ?_, pw_insU h2⟩
        rcases mem_insU.mp hz with rfl | hz
        · omega
        · exact h1 z hz
theorem pw_sortU : ∀ xs : List Int, (sortU xs).Pairwise (· < ·)
  | [] => List.Pairwise.nil
  | x :: r => pw_insU (pw_sortU r)
theorem insU_len (x : Int) : ∀ r : List Int, (insU x r).length ≤ r.length + 1
  | [] => by simp [insU]
  | y :: r => by
    unfold insU
    split
    · simp
    · split
      · simp
      · have := insU_len x r
        simp only [List.length_cons]; omega
theorem sortU_len : ∀ xs : List Int, (sortU xs).length ≤ xs.length
  | [] => Nat.le_refl _
  | x :: r => by
    have h1 := insU_len x (sortU r)
    have h2 := sortU_len r
    show (insU x (sortU r)).length ≤ _
    rw [List.length_cons]; omega
theorem fl_len2 {α β : Type} (ds : List α) (f : α → List β) (m : Nat) (h : ∀ d ∈ ds, (f d).length ≤ m) : (ds.flatMap f).length ≤ ds.length * m := by
  induction ds with
  | nil => simp
  | cons d r ih =>
    have h1 := ih fun y hy => h y (List.mem_cons_of_mem _ hy)
    have h2 := h d List.mem_cons_self
    rw [List.flatMap_cons, List.length_append, List.length_cons, Nat.succ_mul]
    omega
theorem up_unique : ∀ {a b : List Int}, a.Pairwise (· < ·) → b.Pairwise (· < ·) → (∀ k, k ∈ a ↔ k ∈ b) → a = b
  | [], [], _, _, _ => rfl
  | [], y :: t, _, _, h => absurd ((h y).mpr List.mem_cons_self) (by simp)
  | x :: r, [], _, _, h => absurd ((h x).mp List.mem_cons_self) (by simp)
  | x :: r, y :: t, ha, hb, h => by
    obtain ⟨a1, a2⟩ := List.pairwise_cons.mp ha
    obtain ⟨b1, b2⟩ := List.pairwise_cons.mp hb
    have e : x = y := by
      rcases List.mem_cons.mp ((h x).mp List.mem_cons_self) with e | e
      · exact e
      · rcases List.mem_cons.mp ((h y).mpr List.mem_cons_self) with e2 | e2
        · exact e2.symm
        · have := b1 x e
          have := a1 y e2
          omega
    subst e
    refine congrArg _ (up_unique a2 b2 fun k => ⟨fun hk => ?_, fun hk => ?_⟩)
    · rcases List.mem_cons.mp ((h k).mp (List.mem_cons_of_mem _ hk)) with rfl | e
      · exact absurd (a1 _ hk) (Int.lt_irrefl _)
      · exact e
    · rcases List.mem_cons.mp ((h k).mpr (List.mem_cons_of_mem _ hk)) with rfl | e
      · exact absurd (b1 _ hk) (Int.lt_irrefl _)
      · exact e
section
variable {σ : L2.St} {H : Hp} {S : AS} {K : PySem.W.Frag} {w : World}
/-- the members so far, at D -/
structure SetAt (w : World) (H2 : Hp) (D : Addr) (L : List Int) (H' : Hp) : Prop where
  same : Same H2 H'
  ex : ∃ n, H' D = some (SetO w D (fun k => decide (k ∈ L)) n) ∧ n ≤ L.length
theorem SetAt.nil {H2 : Hp} {D : Addr} (hD : H2 D = none) : SetAt w H2 D [] (upd H2 D (LcC.sO w D)) := ⟨same_upd hD, 0, by
  rw [upd_same]
  have e : (fun k : Int => decide (k ∈ ([] : List Int))) = fun _ => false := by funext k; simp
  rw [e], Nat.le_refl _⟩
theorem SetAt.lift {H2 H' : Hp} {D : Addr} {L : List Int} (l : Lv H2 S) (hD : H2 D = none) (m : SetAt w H2 D L H') : Lift H2 S H' (And1 S D) := by
  refine ⟨fun h => (h.add hD).same m.same, fun a ha z => ?_, fun a h => .inl h, m.same⟩
  rcases ha with ha | ha
  · exact Lv.same m.same l a ha z
  · obtain ⟨n, e, _⟩ := m.ex
    rw [ha, e] at z; cases z
theorem SetAt.step {H2 H' H4 : Hp} {D : Addr} {L : List Int} {k : Int} (hD : H2 D = none) (m : SetAt w H2 D L H') (s : Same H' H4) (hz : L.length ≤ 60) :
    ∃ (S : Int → Bool) (n : Nat), H4 D = some (SetO w D S n) ∧ n + 1 < scanBound ∧ SetAt w H2 D (L ++ [k]) (upd H4 D (SetO w D (fun j => S j || decide (j = k)) (if S k = true then n else n + 1))) := by
  obtain ⟨n, e, hn⟩ := m.ex
  refine ⟨_, n, s _ _ e, by unfold scanBound; omega, fun b o hb => ?_, (if decide (k ∈ L) = true then n else n + 1), ?_, ?_⟩
  · rw [upd_ne (ne_of_none hb hD)]
    exact s _ _ (m.same _ _ hb)
  · rw [upd_same]
    have e2 : (fun j : Int => decide (j ∈ L) || decide (j = k)) = fun j => decide (j ∈ L ++ [k]) := by funext j; simp
    rw [e2]
  · rw [List.length_append]; show _ ≤ L.length + 1; split <;> omega
theorem D_sortSc2 {i0 i1 ic : Nat} {te tn : TE} {cs : List Int} {n : Int → Nat} {f : Int → Nat → Int} {v : V} (hv : σ[ic]? = some (some v)) (ov : Oc H S v (intT' cs)) (h3 : cs.length ≤ 3) (hn5 : ∀ c ∈ cs, n c ≤ 5)
    (hw : ∀ v : V, wipe ((wipe σ [i0, i1]).set i0 (some v)) [i0, i1] = wipe σ [i0, i1]) (hw2 : ∀ v u : V, wipe ((wipe ((wipe σ [i0, i1]).set i0 (some v)) [i1]).set i1 (some u)) [i1] = wipe ((wipe σ [i0, i1]).set i0 (some v)) [i1])
    (hn : ∀ c H1 S1, c ∈ cs → Lift H S H1 S1 → DE tn ((wipe σ [i0, i1]).set i0 (some (.int c))) H1 S1 (.int (n c : Nat)))
    (hs : ∀ c (j : Nat) H1 S1, c ∈ cs → j < n c → Lift H S H1 S1 → DE te ((wipe ((wipe σ [i0, i1]).set i0 (some (.int c))) [i1]).set i1 (some (.int (j : Nat)))) H1 S1 (.int (f c j))) :
    DE (tCB (rSortedSet w) (tCons (LcC.tSc2 w (iTup K (tVar ic)) (gName i0) tYes (iRng1 (tCons tn tNil)) (gName i1) tYes te [i0, i1] [i1]) tNil)) σ H S
      (.lst ((sortU (cs.flatMap fun c => (List.range (n c)).map fun j => f c j)).map Dt.int)) := fun H1 S1 Q x q => by
  obtain ⟨a, xs, rfl, ea, na, oa⟩ := (x.ob ov).tup_inv
  have e := oa.ints
  subst e
  refine ⟨_, hv, a, rfl, ⟨_, ea.sq⟩, fun D hD => ?_⟩
  let F : Int → List Int := fun c => (List.range (n c)).map fun j => f c j
  have lenF : ∀ i, i ≤ cs.length → ((cs.take i).flatMap F).length ≤ i * 5 := by
    intro i
    induction i with
    | zero => intro _; simp
    | succ i ih =>
      intro hi
      have hg : cs[i]? = some cs[i] := List.getElem?_eq_getElem (by omega)
      have h5 := hn5 _ (List.mem_of_getElem? hg)
      rw [List.take_add_one, hg, List.flatMap_append, List.length_append]
      have := ih (by omega)
      have l1 : ((some cs[i]).toList.flatMap F).length = n cs[i] := by simp [F]
      omega
  refine ⟨fun i m H' => m = cs.length - i ∧ i ≤ cs.length ∧ SetAt w H1 D ((cs.take i).flatMap F) H', ⟨_, rfl, Nat.zero_le _, SetAt.nil hD⟩, ?_⟩
  rintro i m H2 ⟨rfl, hi, st⟩
  by_cases lt : i < cs.length
  · have hg : cs[i]? = some cs[i] := List.getElem?_eq_getElem lt
    have cm := List.mem_of_getElem? hg
    have c5 := hn5 _ cm
    refine .inr ⟨⟨_, .int cs[i], (ea.same st.same).sq, by rw [List.getElem?_map, hg]; rfl⟩, fun H3 => SetAt w H1 D ((cs.take (i + 1)).flatMap F) H3, fun H3 h => ⟨_, by omega, rfl, lt, h⟩, ?_⟩
    rintro y H3 ⟨rfl, fy⟩
    have ey := fy _ (ea.same st.same).sq
    rw [List.getElem?_map, hg] at ey
    have ey := Option.some.inj ey
    subst ey
    have lf := x.trans (st.lift x.live hD)
    refine ⟨hw _, (hn _ _ _ cm lf).go lf.live fun u H4 k4 o4 => ?_⟩
    have eu := o4.int_inv
    subst eu
    refine ⟨_, rfl, by omega, by omega, ?_⟩
    rw [Int.toNat_natCast]
    refine ⟨fun j k H' => k = n cs[i] - j ∧ j ≤ n cs[i] ∧ SetAt w H1 D ((cs.take i).flatMap F ++ (List.range j).map fun j => f cs[i] j) H', ⟨_, rfl, Nat.zero_le _, ?_⟩, ?_⟩
    · obtain ⟨m, e, hm⟩ := st.ex
      refine ⟨st.same.trans k4, m, ?_, ?_⟩
      · simpa using k4 _ _ e
      · simpa using hm
    rintro j kk H5 ⟨rfl, hj, st5⟩
    by_cases jl : j < n cs[i]
    · refine .inr ⟨jl, fun H6 => SetAt w H1 D ((cs.take i).flatMap F ++ (List.range (j + 1)).map fun j => f cs[i] j) H6, fun H6 h6 => ⟨_, by omega, rfl, jl, h6⟩, ?_⟩
      rintro y H6 ⟨rfl, rfl⟩
      rw [Int.zero_add]
      have lf5 := x.trans (st5.lift x.live hD)
      refine ⟨hw2 _ _, (hs _ j _ _ cm jl lf5).go lf5.live fun u H7 k7 o7 => ?_⟩
      have eu := o7.int_inv
      subst eu
      have sz : ((cs.take i).flatMap F ++ (List.range j).map fun j => f cs[i] j).length ≤ 60 := by
        rw [List.length_append, List.length_map, List.length_range]
        have := lenF i (by omega)
        omega
      obtain ⟨S0, m, e1, e2, st6⟩ := st5.step (k := f cs[i] j) hD k7 sz
      refine ⟨_, S0, m, rfl, e1, e2, ?_⟩
      rw [List.range_succ, List.map_append, ← List.append_assoc]
      exact st6
    · have ej : j = n cs[i] := by omega
      subst ej
      refine .inl ⟨Nat.le_refl _, ?_⟩
      rw [List.take_add_one, hg, List.flatMap_append]
      simpa [F] using st5
  · have ei : i = cs.length := by omega
    subst ei
    rw [List.take_length] at st
    have l15 := lenF cs.length (Nat.le_refl _)
    rw [List.take_length] at l15
    obtain ⟨m, e, hm⟩ := st.ex
    refine .inl ⟨⟨_, (ea.same st.same).sq, by rw [List.length_map]; exact Nat.le_refl _⟩, D, _, m, rfl, e, by omega, fun ns p pw hmem hl hp => ?_⟩
    have en : ns = sortU (cs.flatMap F) := up_unique pw (pw_sortU _) fun k => by rw [hmem, mem_sortU]; simp
    subst en
    refine q _ _ (st.same.trans (same_upd hp)) (.lst upd_same (fun z => ?_) (ocs_ints _))
    exact Lv.same st.same x.live p z hp
/-! ### sorted data -/
def rSortD (K : PySem.W.Frag) : List V → Hp → VK → Prop := fun vs H Q => ∃ (a : Addr) (xs : List V) (ds : List PyData), vs = [.ref a] ∧ SqL K H a xs ∧ DpAll K H xs ds ∧ AllAlike ds ∧ Sortable ds ∧ (∀ d ∈ ds, d.depth ≤ 16) ∧
  ∀ p, H p = none → Q (.ref p) (upd H p (.lst (((xs.zip ds).mergeSort (dataLe false Prod.snd)).map Prod.fst)))
theorem dp_len {K : PySem.W.Frag} {H : Hp} : ∀ {vs : List V} {ds : List PyData}, DpAll K H vs ds → vs.length = ds.length
  | _, _, .nil => rfl
  | _, _, .cons _ t => congrArg Nat.succ (dp_len t)
theorem each_zip {X : Cx} {pins : List (Addr × Obj)} {σ : L2.St} {H : Hp} {s : Shared} (I : Inv X pins σ H s) : ∀ {vs : List V} {us : List Value} {ds : List PyData}, DpAll X.K H vs ds → Vals vs us → EachIs (fun u (p : V × PyData) => RelV p.1 u) us (vs.zip ds) ∧ EachIs (fun u (p : V × PyData) => ∃ as, Reads s.heap u p.2 as) us (vs.zip ds)
  | _, _, _, .nil, .nil => ⟨.nil, .nil⟩
  | _, _, _, .cons h t, .cons r rs => by
    obtain ⟨e1, e2⟩ := each_zip I t rs
    exact ⟨.cons r e1, .cons (Dp.reads I _ _ _ h r) e2⟩
theorem vals_each : ∀ {us : List Value} {ps : List (V × PyData)}, EachIs (fun u (p : V × PyData) => RelV p.1 u) us ps → Vals (ps.map Prod.fst) us
  | _, _, .nil => .nil
  | _, _, .cons r t => .cons r (vals_each t)
theorem cr_sortD {X : Cx} (K : PySem.W.Frag) (hu : X.A.units + 64 < cLine) (h : X.K = K := by rfl) : CallR X (.builtin "sorted") (rSortD K) := by
  subst h
  intro pins s σ H vs us Q I r h
  obtain ⟨a, xs, ds, rfl, hs, hd, al, so, dp, q⟩ := h
  obtain ⟨its, rv, pl, hz⟩ := I.list hs
  obtain ⟨e1, e2⟩ := each_zip I hd rv
  rw [Vals.ref1 r]
  have em : (xs.zip ds).map Prod.snd = ds := List.map_snd_zip (Nat.le_of_eq (dp_len hd).symm)
  have lz : (xs.zip ds).length = xs.length := by rw [List.length_zip, dp_len hd, Nat.min_self]
  refine sorted_data (enc := Prod.snd) pl.isList e1 e2 (by rw [em]; exact al) (by rw [em]; exact so) (by rw [lz]; exact hz) (fun b hb => ?_) fun out hl eo => ?_
  · have := dp b.2 (List.of_mem_zip hb).2
    omega
  · obtain ⟨ep, he'⟩ := PyProof.Rows.sortedAll_at s.heap its out.toArray
    refine ⟨.ref _, upd H (s.heap.objs.size + 1) (.lst (((xs.zip ds).mergeSort (dataLe false Prod.snd)).map Prod.fst)), I.laid (t' := s.toks) (fun _ _ => PyProof.Rows.sortedAll_old) (Nat.le_succ _) ⟨?_, out, ep, vals_each eo, he'⟩, rfl, q _ (I.hok.fresh (Nat.le_succ _))⟩
    rw [List.length_map, List.length_mergeSort, lz]; exact hz
end
def encD (q : List Int × Int) : Dt := .tup true [intT' q.1, .int q.2]
def encP (q : List Int × Int) : PyData := .tuple [intP q.1, .int q.2]
theorem pd_encD (q : List Int × Int) : pd (encD q) = encP q := by
  show PyData.tuple [pd (intT' q.1), .int q.2] = _
  rw [pd_intT]; rfl
theorem pairs_dp {K : PySem.W.Frag} {H : Hp} {S : AS} {xs : List V} {rows : List (List Int × Int)} (h : Ocs H S xs (rows.map encD)) : DpAll K H xs (rows.map encP) := by
  have := h.dp (K := K)
  rw [pdAll_map, List.map_map] at this
  have e : (rows.map (pd ∘ encD)) = rows.map encP := List.map_congr_left fun x _ => pd_encD x
  rw [e] at this
  exact this
theorem depth_encP (q : List Int × Int) : (encP q).depth = 2 := by
  unfold encP
  have h2 : PyData.depth (intP q.1) = 1 := by unfold intP; rw [PyData.depth, depth_ints]
  simp [PyData.depth, PyData.depthAll, h2]
theorem alike_encP (p q : List Int × Int) : alike (encP p) (encP q) = true := by
  unfold encP
  have e : alike (intP p.1) (intP q.1) = true := by
    show alike (.tuple _) (.tuple _) = true
    rw [alike]; exact alike_ints _ _
  simp [alike, alikeAll, e]
theorem ocs_zip {H : Hp} {S : AS} (f : α → Dt) : ∀ {vs : List V} {rs : List α}, Ocs H S vs (rs.map f) → ∀ z ∈ vs.zip rs, Oc H S z.1 (f z.2)
  | _, [], .nil, z, hz => by simp at hz
  | _, r :: rs, .cons h t, z, hz => by
    rw [List.zip_cons_cons] at hz
    rcases List.mem_cons.mp hz with rfl | hz
    · exact h
    · exact ocs_zip f t z hz
theorem ocs_of {H : Hp} {S : AS} (f : α → Dt) : ∀ (l : List (V × α)), (∀ z ∈ l, Oc H S z.1 (f z.2)) → Ocs H S (l.map Prod.fst) (l.map fun z => f z.2)
  | [], _ => .nil
  | z :: r, h => .cons (h z List.mem_cons_self) (ocs_of f r fun y hy => h y (List.mem_cons_of_mem _ hy))
def sortP (rows : List (List Int × Int)) : List (List Int × Int) := rows.mergeSort (dataLe false encP)
section
variable {σ : L2.St} {H : Hp} {S : AS} {K : PySem.W.Frag}
theorem none_back {H H1 : Hp} {t : Addr} (k : Same H H1) (h : H1 t = none) : H t = none := by
  cases e : H t with
  | none => rfl
  | some o => rw [k _ _ e] at h; cases h
theorem D_sortPF {tl : TE} {rows : List (List Int × Int)} (hl : DE tl σ H S (.lst (rows.map encD))) (H1 : Hp) (S1 : AS) (Q : VK) (x : Lift H S H1 S1) (q : ∀ v H2, Same H1 H2 → Oc H2 S1 v (.lst ((sortP rows).map encD)) → (∀ a, v = .ref a → H1 a = none) → Q v H2) : (tCB (rSortD K) (tCons tl tNil)) σ H1 Q :=
  hl H1 S1 _ x fun v H2 k o => by
    obtain ⟨a, xs, rfl, ea, na, oa⟩ := o.lst_inv
    have len := oa.len
    rw [List.length_map] at len
    refine ⟨a, xs, rows.map encP, rfl, SqL.of ea, pairs_dp oa, fun d hd e he => ?_, Sortable.tuples fun b => ⟨_, _, rfl⟩, fun d hd => ?_, fun p hp => ?_⟩
    · obtain ⟨b, _, rfl⟩ := List.mem_map.mp hd
      obtain ⟨c, _, rfl⟩ := List.mem_map.mp he
      exact alike_encP b c
    · obtain ⟨b, _, rfl⟩ := List.mem_map.mp hd
      rw [depth_encP]; decide
    · refine q _ _ (k.trans (same_upd hp)) (.lst upd_same (Lv.out (Lv.same k x.live) hp) ?_) fun b eb => by cases eb; exact none_back k hp
      let le2 : V × (List Int × Int) → V × (List Int × Int) → Bool := dataLe false fun z => encP z.2
      have e1 : (xs.zip (rows.map encP)).mergeSort (dataLe false Prod.snd) = ((xs.zip rows).mergeSort le2).map fun z => (z.1, encP z.2) := by
        rw [List.zip_map_right, List.map_mergeSort (r := le2) (s := dataLe false Prod.snd) fun a _ b _ => rfl]
        rfl
      have e2 : sortP rows = ((xs.zip rows).mergeSort le2).map Prod.snd := by
        rw [List.map_mergeSort (r := le2) (s := dataLe false encP) fun a _ b _ => rfl, List.map_snd_zip (by omega)]
        rfl
      rw [e1, e2, List.map_map, List.map_map]
      refine (ocs_of encD _ fun z hz => ?_).same (same_upd hp)
      exact ocs_zip encD oa z ((List.mergeSort_perm _ _).mem_iff.mp hz)
theorem D_sortP {tl : TE} {rows : List (List Int × Int)} (hl : DE tl σ H S (.lst (rows.map encD))) : DE (tCB (rSortD K) (tCons tl tNil)) σ H S (.lst ((sortP rows).map encD)) := fun H1 S1 Q x q => D_sortPF hl H1 S1 Q x fun v H2 k o _ => q v H2 k o
theorem D_sortG {α : Type} {f : α → Dt} {enc : α → PyData} {tl : TE} {rows : List α} (hpd : ∀ a, pd (f a) = enc a) (hal : ∀ a b, alike (enc a) (enc b) = true) (hso : Sortable (rows.map enc)) (hdp : ∀ a, (enc a).depth ≤ 16) (hl : DE tl σ H S (.lst (rows.map f))) : DE (tCB (rSortD K) (tCons tl tNil)) σ H S (.lst ((rows.mergeSort (dataLe false enc)).map f)) := fun H1 S1 Q x q =>
  hl H1 S1 _ x fun v H2 k o => by
    obtain ⟨a, xs, rfl, ea, na, oa⟩ := o.lst_inv
    have len := oa.len
    rw [List.length_map] at len
    have dps : DpAll K H2 xs (rows.map enc) := by
      have := oa.dp (K := K)
      rw [pdAll_map, List.map_map] at this
      have e : (rows.map (pd ∘ f)) = rows.map enc := List.map_congr_left fun x _ => hpd x
      rw [e] at this
      exact this
    refine ⟨a, xs, rows.map enc, rfl, SqL.of ea, dps, fun d hd e he => ?_, hso, fun d hd => ?_, fun p hp => ?_⟩
    · obtain ⟨b, _, rfl⟩ := List.mem_map.mp hd
      obtain ⟨c, _, rfl⟩ := List.mem_map.mp he
      exact hal b c
    · obtain ⟨b, _, rfl⟩ := List.mem_map.mp hd
      exact hdp b
    · refine q _ _ (k.trans (same_upd hp)) (.lst upd_same (Lv.out (Lv.same k x.live) hp) ?_)
      let le2 : V × α → V × α → Bool := dataLe false fun z => enc z.2
      have e1 : (xs.zip (rows.map enc)).mergeSort (dataLe false Prod.snd) = ((xs.zip rows).mergeSort le2).map fun z => (z.1, enc z.2) := by
        rw [List.zip_map_right, List.map_mergeSort (r := le2) (s := dataLe false Prod.snd) fun a _ b _ => rfl]
        rfl
      have e2 : rows.mergeSort (dataLe false enc) = ((xs.zip rows).mergeSort le2).map Prod.snd := by
        rw [List.map_mergeSort (r := le2) (s := dataLe false enc) fun a _ b _ => rfl, List.map_snd_zip (by omega)]
      rw [e1, e2, List.map_map, List.map_map]
      refine (ocs_of f _ fun z hz => ?_).same (same_upd hp)
      exact ocs_zip f oa z ((List.mergeSort_perm _ _).mem_iff.mp hz)
/-- xs[1:] -/
theorem D_slice1 {ts : TE} {ds : List Dt} (hl : DE ts σ H S (.lst ds)) : DE (tSl (rSlL K) ts (tPart (tC (.int 1))) tNoPart) σ H S (.lst (ds.drop 1)) := fun H1 S1 Q x q =>
  hl H1 S1 _ x fun v H2 k o => by
    obtain ⟨a, xs, rfl, ea, na, oa⟩ := o.lst_inv
    refine ⟨1, rfl, a, xs, rfl, SqL.of ea, fun p hp => ?_⟩
    rw [cut1]
    refine q _ _ (k.trans (same_upd hp)) (.lst upd_same (Lv.out (Lv.same k x.live) hp) ?_)
    cases oa with
    | nil => exact .nil
    | cons h t => exact t.same (same_upd hp)
/-- [e for a, b in zip(xs, ys)] -/
theorem D_lcZ {i1 i2 : Nat} {ta tb te : TE} {ds es : List Dt} {f : Dt × Dt → Dt} (ha : DE ta σ H S (.lst ds)) (hb : DE tb σ H S (.lst es)) (hz : ds.length ≤ 999999) (hw : ∀ x y : V, wipe (((wipe σ [i1, i2]).set i1 (some x)).set i2 (some y)) [i1, i2] = wipe σ [i1, i2])
    (hs : ∀ v u d e H1 S1, (d, e) ∈ ds.zip es → Lift H S H1 S1 → Oc H1 S1 v d → Oc H1 S1 u e → DE te (((wipe σ [i1, i2]).set i1 (some v)).set i2 (some u)) H1 S1 (f (d, e))) :
    DE (tLc (iZipA K (tCons ta (tCons tb tNil))) (gTup K 2 (gCons (gName i1) (gCons (gName i2) gNil))) tYes te [i1, i2]) σ H S (.lst ((ds.zip es).map f)) := fun H1 S1 Q x q =>
  ha H1 S1 _ x fun va H2 k o => (hb.lift (x.then k)).go (Lv.same k x.live) fun vb H3 k3 o3 => by
    obtain ⟨a, xs, rfl, ea, na, oa⟩ := (o.same k3).lst_inv
    obtain ⟨b, ys, rfl, eb, nb, ob⟩ := o3.lst_inv
    have l1 := oa.len
    have l2 := ob.len
    have L3 := Lv.same k3 (Lv.same k x.live)
    have x3 := (x.then k).then k3
    refine ⟨a, b, xs, ys, rfl, .inl ⟨SqL.of ea, SqL.of eb, fun D hD => ?_⟩⟩
    have lz : (ds.zip es).length ≤ 999999 := by rw [List.length_zip]; omega
    refine ⟨fun i m H' => m = (ds.zip es).length - i ∧ i ≤ (ds.zip es).length ∧ Made H3 S1 D (((ds.zip es).take i).map f) H', ⟨_, rfl, Nat.zero_le _, Made.nil hD⟩, ?_⟩
    rintro i m H' ⟨rfl, hi, md⟩
    by_cases lt : i < (ds.zip es).length
    · have lt2 := lt
      rw [List.length_zip] at lt2
      have gx : xs[i]? = some xs[i] := List.getElem?_eq_getElem (by omega)
      have gy : ys[i]? = some ys[i] := List.getElem?_eq_getElem (by omega)
      obtain ⟨d, gd, od⟩ := oa.get gx
      obtain ⟨e', ge, oe⟩ := ob.get gy
      have gz : (ds.zip es)[i]? = some (d, e') := by rw [List.getElem?_zip_eq_some]; exact ⟨gd, ge⟩
      refine .inr ⟨⟨xs, ys, _, _, SqL.of (md.same _ _ ea), SqL.of (md.same _ _ eb), gx, gy⟩, fun H2 => Made H3 S1 D (((ds.zip es).take (i + 1)).map f) H2, fun H2 h2 => ⟨_, by omega, rfl, lt, h2⟩, ?_⟩
      rintro v H4 ⟨t, x', y', rfl, ht, rfl, fx, fy⟩
      have ex : x' = xs[i] := Option.some.inj ((fx _ (SqL.of (md.same _ _ ea))).symm.trans gx)
      have ey : y' = ys[i] := Option.some.inj ((fy _ (SqL.of (md.same _ _ eb))).symm.trans gy)
      subst ex; subst ey
      have kt := same_upd (o := .tup [xs[i], ys[i]]) ht
      have lf := (md.lift L3 hD).then kt
      refine ⟨t, _, rfl, SqT.of upd_same, rfl, _, _, rfl, _, _, rfl, rfl, ?_⟩
      refine ⟨hw _ _, (hs _ _ d e' _ _ (List.mem_of_getElem? gz) (x3.trans lf) (lf.ob od) (lf.ob oe)).go lf.live fun z H5 k5 o5 => ?_⟩
      obtain ⟨acc, e1, e2, m2⟩ := md.step hD (kt.trans k5) o5 (by rw [List.length_map]; have := List.length_take_le i (ds.zip es); have := List.length_take_le' i (ds.zip es); omega)
      refine ⟨acc, e1, e2, ?_⟩
      rw [List.take_add_one, gz, List.map_append]; exact m2
    · have ei : i = (ds.zip es).length := by omega
      subst ei
      rw [List.take_length] at md
      refine .inl ⟨⟨xs, ys, SqL.of (md.same _ _ ea), SqL.of (md.same _ _ eb), ?_⟩, q _ _ ((k.trans k3).trans md.same) (md.done L3 hD)⟩
      rw [List.length_zip]; omega
end
end Lc
namespace K05
open PySem PySem.Spec PyProof.Rows L2 Lc RZ
def topS (i : Nat) : Stmt := PySem.Challenge.pw_lanescounted_k05_courses_of_counts.main.body.getD i (.Pass ⟨0, 0, 0, 0⟩)
abbrev s_is_whole : Stmt := topS 2
theorem sc_is_whole : FnScope ["thing", "low", "high"] ["thing", "low", "high"] (defScope s_is_whole) := ⟨rfl, rfl, rfl, by decide +kernel, rfl, by decide +kernel, by decide +kernel⟩
abbrev s_is_word : Stmt := topS 3
theorem sc_is_word : FnScope ["thing", "words"] ["thing", "words"] (defScope s_is_word) := ⟨rfl, rfl, rfl, by decide +kernel, rfl, by decide +kernel, by decide +kernel⟩
abbrev s_is_row : Stmt := topS 4
theorem sc_is_row : FnScope ["thing", "low", "high"] ["thing", "low", "high"] (defScope s_is_row) := ⟨rfl, rfl, rfl, by decide +kernel, rfl, by decide +kernel, by decide +kernel⟩
abbrev s_all_courses : Stmt := topS 14
theorem sc_all_courses : FnScope ["counts"] ["counts"] (defScope s_all_courses) := ⟨rfl, rfl, rfl, by decide +kernel, rfl, by decide +kernel, by decide +kernel⟩
abbrev s_small_courses : Stmt := topS 15
theorem sc_small_courses : FnScope ["counts", "course"] ["counts"] (defScope s_small_courses) := ⟨rfl, rfl, rfl, by decide +kernel, rfl, by decide +kernel, by decide +kernel⟩
abbrev s_course_shares : Stmt := topS 16
theorem sc_course_shares : FnScope ["kind", "counts", "size"] ["kind", "counts", "size"] (defScope s_course_shares) := ⟨rfl, rfl, rfl, by decide +kernel, rfl, by decide +kernel, by decide +kernel⟩
abbrev s_is_counts : Stmt := topS 17
theorem sc_is_counts : FnScope ["thing", "count"] ["thing"] (defScope s_is_counts) := ⟨rfl, rfl, rfl, by decide +kernel, rfl, by decide +kernel, by decide +kernel⟩
abbrev s_check_kind : Stmt := topS 18
theorem sc_check_kind : FnScope ["kind"] ["kind"] (defScope s_check_kind) := ⟨rfl, rfl, rfl, by decide +kernel, rfl, by decide +kernel, by decide +kernel⟩
abbrev s_check_size : Stmt := topS 19
theorem sc_check_size : FnScope ["size"] ["size"] (defScope s_check_size) := ⟨rfl, rfl, rfl, by decide +kernel, rfl, by decide +kernel, by decide +kernel⟩
abbrev s_check_counts : Stmt := topS 20
theorem sc_check_counts : FnScope ["counts"] ["counts"] (defScope s_check_counts) := ⟨rfl, rfl, rfl, by decide +kernel, rfl, by decide +kernel, by decide +kernel⟩
abbrev s_lane_at : Stmt := topS 21
theorem sc_lane_at : FnScope ["kind", "count", "mark", "size"] ["kind", "count", "mark", "size"] (defScope s_lane_at) := ⟨rfl, rfl, rfl, by decide +kernel, rfl, by decide +kernel, by decide +kernel⟩
abbrev s_lane_start : Stmt := topS 22
theorem sc_lane_start : FnScope ["lane", "count", "size"] ["lane", "count", "size"] (defScope s_lane_start) := ⟨rfl, rfl, rfl, by decide +kernel, rfl, by decide +kernel, by decide +kernel⟩
abbrev s_courses_of : Stmt := topS 23
theorem sc_courses_of : FnScope ["counts", "courses", "count", "course", "lane"] ["counts"] (defScope s_courses_of) := ⟨rfl, rfl, rfl, by decide +kernel, rfl, by decide +kernel, by decide +kernel⟩
abbrev s_renamings_of : Stmt := topS 24
theorem sc_renamings_of : FnScope ["counts", "renamings", "old", "room", "lanes", "new", "count"] ["counts"] (defScope s_renamings_of) := ⟨rfl, rfl, rfl, by decide +kernel, rfl, by decide +kernel, by decide +kernel⟩
abbrev s_renamed : Stmt := topS 25
theorem sc_renamed : FnScope ["course", "lanes", "lane"] ["course", "lanes"] (defScope s_renamed) := ⟨rfl, rfl, rfl, by decide +kernel, rfl, by decide +kernel, by decide +kernel⟩
abbrev s_least_alike : Stmt := topS 26
theorem sc_least_alike : FnScope ["course", "counts", "lanes"] ["course", "counts"] (defScope s_least_alike) := ⟨rfl, rfl, rfl, by decide +kernel, rfl, by decide +kernel, by decide +kernel⟩
abbrev s_shares_by_rest : Stmt := topS 27
theorem sc_shares_by_rest : FnScope ["counts", "size", "period", "rest"] ["counts", "size"] (defScope s_shares_by_rest) := ⟨rfl, rfl, rfl, by decide +kernel, rfl, by decide +kernel, by decide +kernel⟩
abbrev s_shares_by_ranges : Stmt := topS 28
theorem sc_shares_by_ranges : FnScope ["counts", "size", "starts", "start", "end", "count", "lane"] ["counts", "size"] (defScope s_shares_by_ranges) := ⟨rfl, rfl, rfl, by decide +kernel, rfl, by decide +kernel, by decide +kernel⟩
abbrev s_course_of : Stmt := topS 29
theorem sc_course_of : FnScope ["kind", "counts", "mark", "size", "count"] ["kind", "counts", "mark", "size"] (defScope s_course_of) := ⟨rfl, rfl, rfl, by decide +kernel, rfl, by decide +kernel, by decide +kernel⟩
abbrev s_period_of : Stmt := topS 30
theorem sc_period_of : FnScope ["counts", "period", "count"] ["counts"] (defScope s_period_of) := ⟨rfl, rfl, rfl, by decide +kernel, rfl, by decide +kernel, by decide +kernel⟩
abbrev s_law_source : Stmt := topS 32
theorem sc_law_source : FnScope ["_law_script"] ["_law_script"] (defScope s_law_source) := ⟨rfl, rfl, rfl, by decide +kernel, rfl, by decide +kernel, by decide +kernel⟩
abbrev s_law_draw : Stmt := topS 33
theorem sc_law_draw : FnScope ["_law_source_here", "_law_limit", "_law_cell", "_law_digit", "_law_mixed"] ["_law_source_here", "_law_limit"] (defScope s_law_draw) := ⟨rfl, rfl, rfl, by decide +kernel, rfl, by decide +kernel, by decide +kernel⟩
abbrev s_law_integer : Stmt := topS 34
theorem sc_law_integer : FnScope ["_law_found"] ["_law_found"] (defScope s_law_integer) := ⟨rfl, rfl, rfl, by decide +kernel, rfl, by decide +kernel, by decide +kernel⟩
abbrev s_law_told : Stmt := topS 35
theorem sc_law_told : FnScope ["_law_word", "_law_counts", "_law_kind", "_law_size", "_law_told_here"] ["_law_word", "_law_counts", "_law_kind", "_law_size"] (defScope s_law_told) := ⟨rfl, rfl, rfl, by decide +kernel, rfl, by decide +kernel, by decide +kernel⟩
abbrev s_law_wrong : Stmt := topS 36
theorem sc_law_wrong : FnScope ["_law_counts", "_law_which", "_law_at", "_law_strange"] ["_law_counts", "_law_which", "_law_at"] (defScope s_law_wrong) := ⟨rfl, rfl, rfl, by decide +kernel, rfl, by decide +kernel, by decide +kernel⟩
abbrev s_law : Stmt := topS 37
theorem sc_law : FnScope ["_law_script", "_law_source_here", "_law_which", "_law_counts", "_law_wrong_here", "_law_kind", "_law_pick", "_law_size", "_law_due", "_law_count", "_law_wider", "_law_course", "_law_found", "_law_first", "_law_k", "_law_row", "_law_lane"] ["_law_script"] (defScope s_law) := ⟨rfl, rfl, rfl, by decide +kernel, rfl, by decide +kernel, by decide +kernel⟩
structure Txt (K : PySem.W.Frag) (mg : Str → Option Value) where
  a_is_whole : Addr
  d_is_whole : FuncData
  F_is_whole : Fun K "is_whole" "is_whole" s_is_whole a_is_whole d_is_whole
  g_is_whole : mg "is_whole" = some (.ref a_is_whole)
  b_is_whole : Binds K d_is_whole ["thing", "low", "high"] []
  a_is_word : Addr
  d_is_word : FuncData
  F_is_word : Fun K "is_word" "is_word" s_is_word a_is_word d_is_word
  g_is_word : mg "is_word" = some (.ref a_is_word)
  b_is_word : Binds K d_is_word ["thing", "words"] []
  a_is_row : Addr
  d_is_row : FuncData
  F_is_row : Fun K "is_row" "is_row" s_is_row a_is_row d_is_row
  g_is_row : mg "is_row" = some (.ref a_is_row)
  b_is_row : Binds K d_is_row ["thing", "low", "high"] []
  a_all_courses : Addr
  d_all_courses : FuncData
  F_all_courses : Fun K "all_courses" "all_courses" s_all_courses a_all_courses d_all_courses
  g_all_courses : mg "all_courses" = some (.ref a_all_courses)
  b_all_courses : Binds K d_all_courses ["counts"] []
  a_small_courses : Addr
  d_small_courses : FuncData
  F_small_courses : Fun K "small_courses" "small_courses" s_small_courses a_small_courses d_small_courses
  g_small_courses : mg "small_courses" = some (.ref a_small_courses)
  b_small_courses : Binds K d_small_courses ["counts"] []
  a_course_shares : Addr
  d_course_shares : FuncData
  F_course_shares : Fun K "course_shares" "course_shares" s_course_shares a_course_shares d_course_shares
  g_course_shares : mg "course_shares" = some (.ref a_course_shares)
  b_course_shares : Binds K d_course_shares ["kind", "counts", "size"] []
  a_is_counts : Addr
  d_is_counts : FuncData
  F_is_counts : Fun K "is_counts" "is_counts" s_is_counts a_is_counts d_is_counts
  g_is_counts : mg "is_counts" = some (.ref a_is_counts)
  b_is_counts : Binds K d_is_counts ["thing"] []
  a_check_kind : Addr
  d_check_kind : FuncData
  F_check_kind : Fun K "check_kind" "check_kind" s_check_kind a_check_kind d_check_kind
  g_check_kind : mg "check_kind" = some (.ref a_check_kind)
  b_check_kind : Binds K d_check_kind ["kind"] []
  a_check_size : Addr
  d_check_size : FuncData
  F_check_size : Fun K "check_size" "check_size" s_check_size a_check_size d_check_size
  g_check_size : mg "check_size" = some (.ref a_check_size)
  b_check_size : Binds K d_check_size ["size"] []
  a_check_counts : Addr
  d_check_counts : FuncData
  F_check_counts : Fun K "check_counts" "check_counts" s_check_counts a_check_counts d_check_counts
  g_check_counts : mg "check_counts" = some (.ref a_check_counts)
  b_check_counts : Binds K d_check_counts ["counts"] []
  a_lane_at : Addr
  d_lane_at : FuncData
  F_lane_at : Fun K "lane_at" "lane_at" s_lane_at a_lane_at d_lane_at
  g_lane_at : mg "lane_at" = some (.ref a_lane_at)
  b_lane_at : Binds K d_lane_at ["kind", "count", "mark", "size"] []
  a_lane_start : Addr
  d_lane_start : FuncData
  F_lane_start : Fun K "lane_start" "lane_start" s_lane_start a_lane_start d_lane_start
  g_lane_start : mg "lane_start" = some (.ref a_lane_start)
  b_lane_start : Binds K d_lane_start ["lane", "count", "size"] []
  a_courses_of : Addr
  d_courses_of : FuncData
  F_courses_of : Fun K "courses_of" "courses_of" s_courses_of a_courses_of d_courses_of
  g_courses_of : mg "courses_of" = some (.ref a_courses_of)
  b_courses_of : Binds K d_courses_of ["counts"] []
  a_renamings_of : Addr
  d_renamings_of : FuncData
  F_renamings_of : Fun K "renamings_of" "renamings_of" s_renamings_of a_renamings_of d_renamings_of
  g_renamings_of : mg "renamings_of" = some (.ref a_renamings_of)
  b_renamings_of : Binds K d_renamings_of ["counts"] []
  a_renamed : Addr
  d_renamed : FuncData
  F_renamed : Fun K "renamed" "renamed" s_renamed a_renamed d_renamed
  g_renamed : mg "renamed" = some (.ref a_renamed)
  b_renamed : Binds K d_renamed ["course", "lanes"] []
  a_least_alike : Addr
  d_least_alike : FuncData
  F_least_alike : Fun K "least_alike" "least_alike" s_least_alike a_least_alike d_least_alike
  g_least_alike : mg "least_alike" = some (.ref a_least_alike)
  b_least_alike : Binds K d_least_alike ["course", "counts"] []
  a_shares_by_rest : Addr
  d_shares_by_rest : FuncData
  F_shares_by_rest : Fun K "shares_by_rest" "shares_by_rest" s_shares_by_rest a_shares_by_rest d_shares_by_rest
  g_shares_by_rest : mg "shares_by_rest" = some (.ref a_shares_by_rest)
  b_shares_by_rest : Binds K d_shares_by_rest ["counts", "size"] []
  a_shares_by_ranges : Addr
  d_shares_by_ranges : FuncData
  F_shares_by_ranges : Fun K "shares_by_ranges" "shares_by_ranges" s_shares_by_ranges a_shares_by_ranges d_shares_by_ranges
  g_shares_by_ranges : mg "shares_by_ranges" = some (.ref a_shares_by_ranges)
  b_shares_by_ranges : Binds K d_shares_by_ranges ["counts", "size"] []
  a_course_of : Addr
  d_course_of : FuncData
  F_course_of : Fun K "course_of" "course_of" s_course_of a_course_of d_course_of
  g_course_of : mg "course_of" = some (.ref a_course_of)
  b_course_of : Binds K d_course_of ["kind", "counts", "mark", "size"] []
  a_period_of : Addr
  d_period_of : FuncData
  F_period_of : Fun K "period_of" "period_of" s_period_of a_period_of d_period_of
  g_period_of : mg "period_of" = some (.ref a_period_of)
  b_period_of : Binds K d_period_of ["counts"] []
  a_law_source : Addr
  d_law_source : FuncData
  F_law_source : Fun K "_law_source" "_law_source" s_law_source a_law_source d_law_source
  g_law_source : mg "_law_source" = some (.ref a_law_source)
  b_law_source : Binds K d_law_source ["_law_script"] []
  a_law_draw : Addr
  d_law_draw : FuncData
  F_law_draw : Fun K "_law_draw" "_law_draw" s_law_draw a_law_draw d_law_draw
  g_law_draw : mg "_law_draw" = some (.ref a_law_draw)
  b_law_draw : Binds K d_law_draw ["_law_source_here", "_law_limit"] []
  a_law_integer : Addr
  d_law_integer : FuncData
  F_law_integer : Fun K "_law_integer" "_law_integer" s_law_integer a_law_integer d_law_integer
  g_law_integer : mg "_law_integer" = some (.ref a_law_integer)
  b_law_integer : Binds K d_law_integer ["_law_found"] []
  a_law_told : Addr
  d_law_told : FuncData
  F_law_told : Fun K "_law_told" "_law_told" s_law_told a_law_told d_law_told
  g_law_told : mg "_law_told" = some (.ref a_law_told)
  b_law_told : Binds K d_law_told ["_law_word", "_law_counts", "_law_kind", "_law_size"] []
  a_law_wrong : Addr
  d_law_wrong : FuncData
  F_law_wrong : Fun K "_law_wrong" "_law_wrong" s_law_wrong a_law_wrong d_law_wrong
  g_law_wrong : mg "_law_wrong" = some (.ref a_law_wrong)
  b_law_wrong : Binds K d_law_wrong ["_law_counts", "_law_which", "_law_at"] []
  a_law : Addr
  d_law : FuncData
  F_law : Fun K "law" "law" s_law a_law d_law
  g_law : mg "law" = some (.ref a_law)
  b_law : Binds K d_law ["_law_script"] []
  z_all : mg "all" = none
  z_bool : mg "bool" = none
  z_int : mg "int" = none
  z_isinstance : mg "isinstance" = none
  z_len : mg "len" = none
  z_list : mg "list" = none
  z_max : mg "max" = none
  z_min : mg "min" = none
  z_range : mg "range" = none
  z_sorted : mg "sorted" = none
  z_str : mg "str" = none
  z_tuple : mg "tuple" = none
  z_zip : mg "zip" = none
  g_lcm : mg "lcm" = some (.builtin "math.lcm")
  c_KINDS : Addr
  g_KINDS : mg "KINDS" = some (.ref c_KINDS)
  r_KINDS : RelV (.ref c_KINDS) (.ref c_KINDS)
  q_KINDS : ∀ H, SqT K H c_KINDS [.str "rest", .str "ranges"]
  u_GREATEST_SIZE : Value
  g_GREATEST_SIZE : mg "GREATEST_SIZE" = some u_GREATEST_SIZE
  r_GREATEST_SIZE : RelV (.int 10000000000000000000000000000000000000000) u_GREATEST_SIZE
  u_GREATEST_OF_COUNTS : Value
  g_GREATEST_OF_COUNTS : mg "GREATEST_OF_COUNTS" = some u_GREATEST_OF_COUNTS
  r_GREATEST_OF_COUNTS : RelV (.int 4) u_GREATEST_OF_COUNTS
  C_LaneError : Addr
  g_LaneError : mg "LaneError" = some (.ref C_LaneError)
  x_LaneError : PySem.W.excIn K C_LaneError [.type "ValueError", .type "Exception", .type "BaseException", .type "object"] "ValueError.__new__" = true
  k_LaneError : PySem.W.keepIn K (.ref C_LaneError) = true
  p_LaneError : PySem.W.subIn K (.ref C_LaneError) (.type "BaseException") = some true
  t_LaneError : PySem.W.typeIn K (.ref C_LaneError) = some (.type "type")
  i_LaneError : PySem.W.isClsIn K C_LaneError = true
  C_BadKind : Addr
  g_BadKind : mg "BadKind" = some (.ref C_BadKind)
  x_BadKind : PySem.W.excIn K C_BadKind [.type "ValueError", .type "Exception", .type "BaseException", .type "object"] "ValueError.__new__" = true
  k_BadKind : PySem.W.keepIn K (.ref C_BadKind) = true
  p_BadKind : PySem.W.subIn K (.ref C_BadKind) (.type "BaseException") = some true
  t_BadKind : PySem.W.typeIn K (.ref C_BadKind) = some (.type "type")
  i_BadKind : PySem.W.isClsIn K C_BadKind = true
  C_BadSize : Addr
  g_BadSize : mg "BadSize" = some (.ref C_BadSize)
  x_BadSize : PySem.W.excIn K C_BadSize [.type "ValueError", .type "Exception", .type "BaseException", .type "object"] "ValueError.__new__" = true
  k_BadSize : PySem.W.keepIn K (.ref C_BadSize) = true
  p_BadSize : PySem.W.subIn K (.ref C_BadSize) (.type "BaseException") = some true
  t_BadSize : PySem.W.typeIn K (.ref C_BadSize) = some (.type "type")
  i_BadSize : PySem.W.isClsIn K C_BadSize = true
  C_BadCounts : Addr
  g_BadCounts : mg "BadCounts" = some (.ref C_BadCounts)
  x_BadCounts : PySem.W.excIn K C_BadCounts [.type "ValueError", .type "Exception", .type "BaseException", .type "object"] "ValueError.__new__" = true
  k_BadCounts : PySem.W.keepIn K (.ref C_BadCounts) = true
  p_BadCounts : PySem.W.subIn K (.ref C_BadCounts) (.type "BaseException") = some true
  t_BadCounts : PySem.W.typeIn K (.ref C_BadCounts) = some (.type "type")
  i_BadCounts : PySem.W.isClsIn K C_BadCounts = true
  q_BadKind_BadKind : PySem.W.subIn K (.ref C_BadKind) (.ref C_BadKind) = some true
  q_BadKind_BadSize : PySem.W.subIn K (.ref C_BadKind) (.ref C_BadSize) = some false
  q_BadKind_BadCounts : PySem.W.subIn K (.ref C_BadKind) (.ref C_BadCounts) = some false
  q_BadKind_LaneError : PySem.W.subIn K (.ref C_BadKind) (.ref C_LaneError) = some true
  q_BadSize_BadKind : PySem.W.subIn K (.ref C_BadSize) (.ref C_BadKind) = some false
  q_BadSize_BadSize : PySem.W.subIn K (.ref C_BadSize) (.ref C_BadSize) = some true
  q_BadSize_BadCounts : PySem.W.subIn K (.ref C_BadSize) (.ref C_BadCounts) = some false
  q_BadSize_LaneError : PySem.W.subIn K (.ref C_BadSize) (.ref C_LaneError) = some true
  q_BadCounts_BadKind : PySem.W.subIn K (.ref C_BadCounts) (.ref C_BadKind) = some false
  q_BadCounts_BadSize : PySem.W.subIn K (.ref C_BadCounts) (.ref C_BadSize) = some false
  q_BadCounts_BadCounts : PySem.W.subIn K (.ref C_BadCounts) (.ref C_BadCounts) = some true
  q_BadCounts_LaneError : PySem.W.subIn K (.ref C_BadCounts) (.ref C_LaneError) = some true
  e_BadKind : ExcC K C_BadKind
  v_BadKind : PySem.W.subIn K (.ref C_BadKind) (.type "ValueError") = some true
  e_BadSize : ExcC K C_BadSize
  v_BadSize : PySem.W.subIn K (.ref C_BadSize) (.type "ValueError") = some true
  e_BadCounts : ExcC K C_BadCounts
  v_BadCounts : PySem.W.subIn K (.ref C_BadCounts) (.type "ValueError") = some true
def Txt.exc {K : PySem.W.Frag} {mg : Str → Option Value} (T : Txt K mg) (n : String) : Addr := if n = "LaneError" then T.C_LaneError else if n = "BadKind" then T.C_BadKind else if n = "BadSize" then T.C_BadSize else if n = "BadCounts" then T.C_BadCounts else 0
/-- the source of draws, its script's list apart from Av -/
structure SrcA (H : Hp) (a : Addr) (n : Nat) (Av : Addr → Prop) : Prop where
  ex : ∃ (l : Addr) (ns : List Int) (x y z : Int), H a = some (.lst [.ref l, .int x, .int y, .int z]) ∧ H l = some (.lst (ns.map V.int)) ∧ (∀ k ∈ ns, k.natAbs.log2 ≤ 1048576) ∧ ns.length ≤ 63 ∧
    0 ≤ x ∧ x.natAbs.log2 ≤ 1048576 ∧ 0 ≤ y ∧ y < 2147483647 ∧ 0 ≤ z ∧ z ≤ (n : Int) ∧ ∀ D, Av D → l ≠ D
def spDrawA : Sp := fun vs H Q _ => ∃ (a : Addr) (n : Nat) (lim : Int) (Av : Addr → Prop), vs = [.ref a, .int lim] ∧ SrcA H a n Av ∧ (∀ D, Av D → H D ≠ none) ∧ n < 1000000 ∧ 1 ≤ lim ∧ lim ≤ 1000000000000 ∧
  ∀ d H', 0 ≤ d → d < lim → SrcA H' a (n + 1) Av → But a H H' → Q (.int d) H'
def spSourceA (K : PySem.W.Frag) : Sp := fun vs H Q _ => ∃ (a : Addr) (ns : List Int), vs = [.ref a] ∧ SqL K H a (ns.map V.int) ∧ ns.length ≤ 63 ∧ (∀ z ∈ ns, Builtin.Int.intBits z ≤ 1048576) ∧
  ∀ p H', H p = none → SrcA H' p 0 (fun _ => False) → Same H H' → Q (.ref p) H'
/-- no list for Av stands free -/
def Live (H : Hp) (Av : Addr → Prop) : Prop := ∀ D, Av D → H D ≠ none
section
variable {H H' : Hp} {a : Addr} {n m : Nat} {Av Av' : Addr → Prop}
theorem SrcA.ne (S : SrcA H a n Av) {b : Addr} (h : H b = none) : b ≠ a := by
  obtain ⟨l, ns, x, y, z, h1, _⟩ := S.ex
  intro e; subst e; rw [h] at h1; cases h1
theorem SrcA.live (S : SrcA H a n Av) : H a ≠ none := fun e => S.ne e rfl
theorem SrcA.le (S : SrcA H a n Av) (h : n ≤ m) : SrcA H a m Av := by
  obtain ⟨l, ns, x, y, z, h1, h2, h3, h4, h5, h6, h7, h8, h9, h10, h11⟩ := S.ex
  exact ⟨l, ns, x, y, z, h1, h2, h3, h4, h5, h6, h7, h8, h9, by omega, h11⟩
theorem SrcA.same (S : SrcA H a n Av) (k : Same H H') : SrcA H' a n Av := by
  obtain ⟨l, ns, x, y, z, h1, h2, h3⟩ := S.ex
  exact ⟨l, ns, x, y, z, k _ _ h1, k _ _ h2, h3⟩
theorem SrcA.sub (S : SrcA H a n Av) (h : ∀ D, Av' D → Av D) : SrcA H a n Av' := by
  obtain ⟨l, ns, x, y, z, h1, h2, h3, h4, h5, h6, h7, h8, h9, h10, h11⟩ := S.ex
  exact ⟨l, ns, x, y, z, h1, h2, h3, h4, h5, h6, h7, h8, h9, h10, fun D hD => h11 D (h D hD)⟩
theorem SrcA.add {D : Addr} {o : HO} (S : SrcA H a n Av) (hD : H D = none) : SrcA (upd H D o) a n (And1 Av D) := by
  have k := same_upd (o := o) hD
  obtain ⟨l, ns, x, y, z, h1, h2, h3, h4, h5, h6, h7, h8, h9, h10, h11⟩ := S.ex
  exact ⟨l, ns, x, y, z, k _ _ h1, k _ _ h2, h3, h4, h5, h6, h7, h8, h9, h10, fun b hb e => by
    rcases hb with hb | hb
    · exact h11 b hb e
    · rw [e, hb, hD] at h2; cases h2⟩
theorem SrcA.put {D : Addr} {o : HO} (S : SrcA H a n Av) (hD : Av D) (ne : D ≠ a) : SrcA (upd H D o) a n Av := by
  obtain ⟨l, ns, x, y, z, h1, h2, h3, h4, h5, h6, h7, h8, h9, h10, h11⟩ := S.ex
  exact ⟨l, ns, x, y, z, (by rw [upd_ne ne.symm]; exact h1), (by rw [upd_ne (h11 D hD)]; exact h2), h3, h4, h5, h6, h7, h8, h9, h10, h11⟩
theorem Live.but (h : Live H Av) (S : SrcA H' a n Av) (b : But a H H') : Live H' Av := fun D hD z => by
  by_cases e : D = a
  · subst e; exact S.live z
  · cases y : H D with
    | none => exact h D hD y
    | some o => rw [b _ _ e y] at z; cases z
theorem Live.same (h : Live H Av) (k : Same H H') : Live H' Av := fun D hD z => by
  cases y : H D with
  | none => exact h D hD y
  | some o => rw [k _ _ y] at z; cases z
theorem Live.add {D : Addr} {o : HO} (h : Live H Av) (hD : H D = none) : Live (upd H D o) (And1 Av D) := fun b hb z => by
  rcases hb with hb | hb
  · exact h.same (same_upd hD) b hb z
  · subst hb; rw [upd_same] at z; cases z
theorem Live.put {D : Addr} {o : HO} (h : Live H Av) : Live (upd H D o) Av := fun b hb z => by
  by_cases e : b = D
  · subst e; rw [upd_same] at z; cases z
  · rw [upd_ne e] at z; exact h b hb z
end
section
variable {P : Program} {w : World} {K : PySem.W.Frag} {mg : Str → Option Value} {base : Heap}
theorem ok_law_source (T : Txt K mg) : FnOk P w K mg base CX0 1 T.a_law_source T.d_law_source ["_law_script"] (spSourceA K) := by
  refine T.F_law_source.ok sc_law_source (fun vs H Q E h => ?_) (fun cdv A outer s H vs Q E hr h => ?_)
  · obtain ⟨a, ns, rfl, _⟩ := h
    rfl
  · obtain ⟨a, ns, rfl, hS, hlen, hb, q⟩ := h
    refine ⟨_, (pss_one (ps_ret (pe_lst (pa_cons (pe_callTy call_list_of (by rfl) T.z_list (by decide +kernel) (pa_cons (pv 0) pa_nil)) (pa_cons pe_int (pa_cons pe_int (pa_cons pe_int pa_nil))))))), ?_⟩
    refine ⟨.ref a, rfl, a, _, rfl, .inl hS, fun l hl => ⟨(by show 4 ≤ sizeLine; decide), fun p hp => ?_⟩⟩
    have hpl : l ≠ p := ne_of_none upd_same hp
    have hp0 : H p = none := by rw [← upd_ne (H := H) (o := .lst (ns.map V.int)) hpl.symm]; exact hp
    refine q p _ hp0 ⟨l, ns, 0, 1, 0, upd_same, (by rw [upd_ne hpl]; exact upd_same), fun k hk => bits_log (hb k hk), hlen, by decide, by decide, by decide, by decide, by decide, by decide, fun _ h => False.elim h⟩ ((same_upd hl).trans (same_upd hp))
theorem ok_law_draw (T : Txt K mg) : FnOk P w K mg base CX0 1 T.a_law_draw T.d_law_draw ["_law_source_here", "_law_limit"] spDrawA := by
  refine T.F_law_draw.ok sc_law_draw (fun vs H Q E h => ?_) (fun cdv A outer s H vs Q E hr h => ?_)
  · obtain ⟨a, n, lim, Av, rfl, _⟩ := h
    rfl
  · obtain ⟨a, n, lim, Av, rfl, S, hAv, hn, l1, l2, q⟩ := h
    refine ⟨_, (pss_cons (ps_if (PW.pt (pw_and (pt_cmpR op_lt (pe_ix (ixL K) (pv 0) pe_int (fun _ _ => rfl)) (pv 1) (nomark _)) (pw_and1 (pt_truth (pe_ix (ixL K) (pv 0) pe_int (fun _ _ => rfl)) (by intro _; rfl)))))
      (pss_cons (ps_set (i := 2) sc_law_draw.nd rfl (Or.inl rfl) (pe_ix (ixL K) (pe_ix (ixL K) (pv 0) pe_int (fun _ _ => rfl)) pe_int (fun _ _ => rfl)))
      (pss_cons (ps_asg (pe_slice sl_list (pe_ix (ixL K) (pv 0) pe_int (fun _ _ => rfl)) (po_some pe_int) po_none) (pg_sub (pv 0) pe_int set_list))
      (pss_one (ps_if (pt_cmpR op_ge (pv 2) (pe_op op_pow pe_int pe_int) (nomark _))
      (pss_one (ps_asg (pv 2) (pg_sub (pv 0) pe_int set_list)))
      (pss_one (ps_asg (pe_op op_mod (pe_callTy call_int1 (by rfl) T.z_int (by decide +kernel) (pa_cons (pe_op op_add (pe_op op_add (pe_op Lc.op_mulX (pe_ix (ixL K) (pv 0) pe_int (fun _ _ => rfl)) pe_int) (pe_op Lc.op_mulX (pv 2) pe_int)) pe_int) pa_nil)) pe_int) (pg_sub (pv 0) pe_int set_list)))))))
      pss_nil)
      (pss_cons (ps_if (pt_cmpR op_ge (pe_ix (ixL K) (pv 0) pe_int (fun _ _ => rfl)) (pv 1) (nomark _))
      (pss_cons (ps_set (i := 3) sc_law_draw.nd rfl (Or.inl rfl) (pe_op op_mod (pe_callTy call_int1 (by rfl) T.z_int (by decide +kernel) (pa_cons (pe_ix (ixL K) (pv 0) pe_int (fun _ _ => rfl)) pa_nil)) (pv 1)))
      (pss_cons (ps_asg (pe_op op_fdivW (pe_ix (ixL K) (pv 0) pe_int (fun _ _ => rfl)) (pv 1)) (pg_sub (pv 0) pe_int set_list))
      (pss_one (ps_ret (pv 3)))))
      pss_nil)
      (pss_cons (ps_asg (pe_op op_add (pe_ix (ixL K) (pv 0) pe_int (fun _ _ => rfl)) pe_int) (pg_sub (pv 0) pe_int set_list))
      (pss_cons (ps_set (i := 4) sc_law_draw.nd rfl (Or.inl rfl) (pe_op op_mod (pe_callTy call_int1 (by rfl) T.z_int (by decide +kernel) (pa_cons (pe_op op_add (pe_ix (ixL K) (pv 0) pe_int (fun _ _ => rfl)) (pe_op Lc.op_mulX (pe_ix (ixL K) (pv 0) pe_int (fun _ _ => rfl)) pe_int)) pa_nil)) pe_int))
      (pss_one (ps_ret (pe_op op_mod (pe_op op_mod (pe_callTy call_int1 (by rfl) T.z_int (by decide +kernel) (pa_cons (pe_op op_add (pe_op op_add (pe_op Lc.op_mulX (pv 4) (pv 4)) (pe_op Lc.op_mulX (pe_ix (ixL K) (pv 0) pe_int (fun _ _ => rfl)) pe_int)) (pe_ix (ixL K) (pv 0) pe_int (fun _ _ => rfl))) pa_nil)) pe_int) (pv 1)))))))), ?_⟩
    refine seq_cut (fun σ' H' => ∃ c, σ' = [some (.ref a), some (.int lim), c, none, none] ∧ SrcA H' a n Av ∧ But a H H') ?_ (fun K1 => ?_)
    · rintro σ' H' ⟨c, rfl, S', B'⟩
      obtain ⟨l, ns, x, y, z, ha, hl, hb, hlen, x0, xb, y0, y1, z0, z1, av⟩ := S'.ex
      have nla : l ≠ a := fun e => by
        subst e; rw [ha] at hl
        have e2 := HO.lst.inj (Option.some.inj hl)
        cases ns with
        | nil => exact nomatch e2
        | cons k r => exact nomatch (List.cons.inj e2).1
      refine ⟨.ref a, rfl, a, _, 1, .int x, rfl, rfl, SqL.of ha, atI_nat (j := 1) rfl, .int lim, rfl, x, lim, rfl, rfl, _, rfl, ite2 (fun e => ?_) (fun e => ?_)⟩
      · have e1 : lim ≤ x := of_decide_eq_true e
        refine ⟨.ref a, rfl, a, _, 1, .int x, rfl, rfl, SqL.of ha, atI_nat (j := 1) rfl, .inl ⟨x, rfl, .int lim, rfl, x, lim, rfl, rfl, (by show 0 < lim; omega), ?_⟩⟩
        refine ⟨.ref a, rfl, a, _, 1, .int x, rfl, rfl, SqL.of ha, atI_nat (j := 1) rfl, .int lim, rfl, x, lim, rfl, rfl, divX (by omega) (Nat.lt_of_lt_of_le (by omega : lim.natAbs < 2 ^ 64) (Nat.pow_le_pow_right (by decide) (by decide))), .ref a, rfl, a, _, 1, 1, rfl, rfl, ha, rfl, ?_⟩
        refine ⟨.int (x % lim), rfl, q _ _ (Int.emod_nonneg x (by omega)) (Int.emod_lt_of_pos x (by omega)) ?_ B'.upd⟩
        exact ⟨l, ns, x / lim, y, z, upd_same, (by rw [upd_ne nla]; exact hl), hb, hlen, Int.ediv_nonneg x0 (by omega), idiv_log x0 l1 xb, y0, y1, z0, by omega, av⟩
      · refine ⟨.ref a, rfl, a, _, 3, .int z, rfl, rfl, SqL.of ha, atI_nat (j := 3) rfl, z, 1, rfl, rfl, .ref a, rfl, a, _, 3, 3, rfl, rfl, ha, rfl, ?_⟩
        have ha2 : (upd H' a (.lst [.ref l, .int x, .int y, .int (z + 1)])) a = some (.lst [.ref l, .int x, .int y, .int (z + 1)]) := upd_same
        have fz : Few (z + 1) := few_le (b := 1000000) (by omega) (by omega) (by decide)
        refine ⟨.ref a, rfl, a, _, 2, .int y, rfl, rfl, SqL.of ha2, atI_nat (j := 2) rfl, .ref a, rfl, a, _, 3, .int (z + 1), rfl, rfl, SqL.of ha2, atI_nat (j := 3) rfl, z + 1, 40692, rfl, rfl, mulX fz (few_le (b := 40692) (by decide) (by decide) (by decide)), y, _, rfl, rfl, .inl ⟨_, rfl, _, _, rfl, rfl, (by show (0 : Int) < 2147483399; decide), ?_⟩⟩
        have m0 : 0 ≤ (y + (z + 1) * 40692) % 2147483399 := Int.emod_nonneg _ (by decide)
        have m1 : (y + (z + 1) * 40692) % 2147483399 < 2147483399 := Int.emod_lt_of_pos _ (by decide)
        have fm := few_le (b := 2147483399) m0 (Int.le_of_lt m1) (by decide)
        refine ⟨_, rfl, _, rfl, _, _, rfl, rfl, mulX fm fm, .ref a, rfl, a, _, 3, .int (z + 1), rfl, rfl, SqL.of ha2, atI_nat (j := 3) rfl, z + 1, 3791, rfl, rfl, mulX fz (few_le (b := 3791) (by decide) (by decide) (by decide)), _, _, rfl, rfl, .ref a, rfl, a, _, 2, .int y, rfl, rfl, SqL.of ha2, atI_nat (j := 2) rfl, _, y, rfl, rfl, .inl ⟨_, rfl, _, _, rfl, rfl, (by show (0 : Int) < 2147483647; decide), .int lim, rfl, _, lim, rfl, rfl, (by show 0 < lim; omega), ?_⟩⟩
        refine q _ _ (Int.emod_nonneg _ (by omega)) (Int.emod_lt_of_pos _ (by omega)) ?_ B'.upd
        exact ⟨l, ns, x, y, z + 1, upd_same, (by rw [upd_ne nla]; exact hl), hb, hlen, x0, xb, y0, y1, by omega, by omega, av⟩
    · obtain ⟨l, ns, x, y, z, ha, hl, hb, hlen, x0, xb, y0, y1, z0, z1, av⟩ := S.ex
      refine ⟨.ref a, rfl, a, _, 1, .int x, rfl, rfl, SqL.of ha, atI_nat (j := 1) rfl, .int lim, rfl, x, lim, rfl, rfl, _, rfl, ite2 (fun e => ?_) (fun e => ?_)⟩
      · refine ⟨.ref a, rfl, a, _, 0, .ref l, rfl, rfl, SqL.of ha, atI_nat (j := 0) rfl, _, .inl ⟨_, SqL.of hl, rfl⟩, ?_⟩
        cases ns with
        | nil => exact iteF (K1 _ _ ⟨none, rfl, S, But.refl _ _⟩)
        | cons k r =>
          refine iteT ?_
          refine ⟨.ref a, rfl, a, _, 0, .ref l, rfl, rfl, SqL.of ha, atI_nat (j := 0) rfl, l, _, 0, .int k, rfl, rfl, SqL.of hl, atI_nat (j := 0) rfl, ?_⟩
          refine ⟨.ref a, rfl, a, _, 0, .ref l, rfl, rfl, SqL.of ha, atI_nat (j := 0) rfl, 1, rfl, l, _, rfl, SqL.of hl, fun p hp => ?_⟩
          have npa : a ≠ p := ne_of_none ha hp
          have ha1 : (upd H p (.lst (cutV ((k :: r).map V.int) (some 1) none))) a = some (.lst [.ref l, .int x, .int y, .int z]) := by
            rw [upd_ne npa]; exact ha
          refine ⟨.ref a, rfl, a, _, 0, 0, rfl, rfl, ha1, rfl, ?_⟩
          have ec : cutV ((k :: r).map V.int) (some 1) none = r.map V.int := by rw [cut1]; rfl
          rw [ec]
          have ha2 : (upd (upd H p (.lst (r.map V.int))) a (.lst [.ref p, .int x, .int y, .int z])) a = some (.lst [.ref p, .int x, .int y, .int z]) := upd_same
          have hp2 : (upd (upd H p (.lst (r.map V.int))) a (.lst [.ref p, .int x, .int y, .int z])) p = some (.lst (r.map V.int)) := by
            rw [upd_ne npa.symm]; exact upd_same
          have B2 : But a H (upd (upd H p (.lst (r.map V.int))) a (.lst [.ref p, .int x, .int y, .int z])) := (Same.but (same_upd hp)).upd
          have hk : k.natAbs.log2 ≤ 1048576 := hb k List.mem_cons_self
          have hr' : ∀ j ∈ r, j.natAbs.log2 ≤ 1048576 := fun j hj => hb j (List.mem_cons_of_mem _ hj)
          have hlr : r.length ≤ 63 := by rw [List.length_cons] at hlen; omega
          refine ⟨.int k, rfl, 10, 18, rfl, rfl, ⟨by decide, by decide, by decide⟩, k, _, rfl, rfl, _, rfl, ite2 (fun e => ?_) (fun e => ?_)⟩
          · have e1 : (10 : Int) ^ 18 ≤ k := of_decide_eq_true e
            refine ⟨.int k, rfl, .ref a, rfl, a, _, 1, 1, rfl, rfl, ha2, rfl, ?_⟩
            refine K1 _ _ ⟨some (.int k), rfl, ⟨p, r, k, y, z, upd_same, ?_, hr', hlr, by omega, hk, y0, y1, z0, z1, fun D hD e => hAv D hD (e ▸ hp)⟩, B2.upd⟩
            rw [upd_ne npa.symm]; exact hp2
          · refine ⟨.ref a, rfl, a, _, 2, .int y, rfl, rfl, SqL.of ha2, atI_nat (j := 2) rfl, y, 48271, rfl, rfl, mulX (few_le (b := 2147483647) y0 (by omega) (by decide)) (few_le (b := 48271) (by decide) (by decide) (by decide)), .int k, rfl, k, 69621, rfl, rfl, mulX (few_bits hk) (few_le (b := 69621) (by decide) (by decide) (by decide)), _, _, rfl, rfl, _, 7, rfl, rfl, .inl ⟨_, rfl, _, _, rfl, rfl, (by show (0 : Int) < 2147483647; decide), .ref a, rfl, a, _, 2, 2, rfl, rfl, ha2, rfl, ?_⟩⟩
            refine K1 _ _ ⟨some (.int k), rfl, ⟨p, r, x, _, z, upd_same, ?_, hr', hlr, x0, xb, Int.emod_nonneg _ (by decide), Int.emod_lt_of_pos _ (by decide), z0, z1, fun D hD e => hAv D hD (e ▸ hp)⟩, B2.upd⟩
            rw [upd_ne npa.symm]; exact hp2
      · exact iteF (K1 _ _ ⟨none, rfl, S, But.refl _ _⟩)
end

section
variable {P : Program} {w : World} {K : PySem.W.Frag} {mg : Str → Option Value} {base : Heap}
theorem ok_is_whole (T : Txt K mg) : FnOk P w K mg base CX0 1 T.a_is_whole T.d_is_whole ["thing", "low", "high"] (spWhole K) := by
  refine T.F_is_whole.ok sc_is_whole (fun vs H Q E h => ?_) (fun cdv A outer s H vs Q E hr h => ?_)
  · obtain ⟨x, lo, hi, n, rfl, _⟩ := h
    rfl
  · obtain ⟨x, lo, hi, n, rfl, hx, q⟩ := h
    refine ⟨_, (pss_one (ps_ret (pe_and (pe_callB call_isi (by rfl) T.z_isinstance (by decide +kernel) (pa_cons (pv 0) (pa_cons (pe_bltn (v := .ty "int") (by rfl) T.z_int (by decide +kernel) rfl) pa_nil))) (pe_and (pe_not (pe_callB call_isi (by rfl) T.z_isinstance (by decide +kernel) (pa_cons (pv 0) (pa_cons (pe_bltn (v := .ty "bool") (by rfl) T.z_bool (by decide +kernel) rfl) pa_nil)))) (pe_one (pe_chain op_le op_le (pv 1) (pv 0) (pv 2))))))), ?_⟩
    refine ⟨x, rfl, x, _, _, _, _, rfl, .ty _, hx.ty, hx.int?, _, rfl, ?_⟩
    cases x with
    | int i =>
      refine iteT ⟨_, rfl, _, _, _, _, _, rfl, .ty _, hx.ty, hx.bool?, _, rfl, _, rfl, iteT ?_⟩
      refine ⟨_, rfl, _, rfl, lo, i, rfl, rfl, _, rfl, ite2 (fun e => ?_) (fun e => ?_)⟩
      · refine ⟨_, rfl, i, hi, rfl, rfl, ?_⟩
        have e2 : wholeV (.int i) lo hi = decide (i ≤ hi) := by
          show (decide (lo ≤ i) && decide (i ≤ hi)) = _
          rw [e, Bool.true_and]
        rw [e2] at q
        exact q
      · have e2 : wholeV (.int i) lo hi = false := by
          show (decide (lo ≤ i) && decide (i ≤ hi)) = _
          rw [Bool.eq_false_iff.mpr e, Bool.false_and]
        rw [e2] at q
        exact q
    | bl b => exact iteT ⟨_, rfl, _, _, _, _, _, rfl, .ty _, hx.ty, hx.bool?, _, rfl, _, rfl, iteF q⟩
    | non => exact iteF q
    | str z => exact iteF q
    | byt z => cases hx
    | flt z => cases hx
    | ref z => exact iteF q
    | ty z => cases hx
theorem ok_is_word (T : Txt K mg) : FnOk P w K mg base CX0 1 T.a_is_word T.d_is_word ["thing", "words"] (spWord K) := by
  refine T.F_is_word.ok sc_is_word (fun vs H Q E h => ?_) (fun cdv A outer s H vs Q E hr h => ?_)
  · obtain ⟨x, t, ws, n, rfl, _⟩ := h
    rfl
  · obtain ⟨x, t, ws, n, rfl, ht, hx, q⟩ := h
    refine ⟨_, (pss_one (ps_ret (pe_and (pe_callB call_isi (by rfl) T.z_isinstance (by decide +kernel) (pa_cons (pv 0) (pa_cons (pe_bltn (v := .ty "str") (by rfl) T.z_str (by decide +kernel) rfl) pa_nil))) (pe_one (pe_cmpR op_in_seq (pv 0) (pv 1) rfl))))), ?_⟩
    refine ⟨x, rfl, x, _, _, _, _, rfl, .ty _, hx.ty, hx.str?, _, rfl, ?_⟩
    cases x with
    | str z =>
      refine iteT ⟨_, rfl, _, rfl, t, _, rfl, .inr ht, rfl, all_flat_str ws, ?_⟩
      rw [show (if false = true then !inV (V.str z) (ws.map V.str) else inV (V.str z) (ws.map V.str)) = decide (z ∈ ws) from inV_str z ws]
      exact q
    | int i => exact iteF q
    | bl b => exact iteF q
    | non => exact iteF q
    | byt z => cases hx
    | flt z => cases hx
    | ref z => exact iteF q
    | ty z => cases hx
end

section
theorem isiK {X : Cx} (K : PySem.W.Frag) (h : X.K = K := by rfl) : CallR X (.builtin "isinstance") (rIsi K) := h ▸ call_isi
theorem strs_of {H : Hp} {p : Addr} {W : List Str} : ∀ {xs : List V} {ds : List Dt}, Obs H p xs ds → (ds.all fun x => wordD x W) = true → ∃ ws : List Str, xs = ws.map V.str ∧ ds = ws.map Dt.str
  | _, _, .nil, _ => ⟨[], rfl, rfl⟩
  | _, _, .cons h t, e => by
    rw [List.all_cons, Bool.and_eq_true] at e
    obtain ⟨ws, e1, e2⟩ := strs_of t e.2
    cases h with
    | str s => exact ⟨s :: ws, by rw [e1]; rfl, by rw [e2]; rfl⟩
    | _ => exact nomatch e.1
theorem shows_strs (ws : List Str) : (ws.map Dt.str).countP isShow = ws.countP fun y => decide (y = ("show" : Str)) := by
  rw [List.countP_map]; rfl
theorem row_len {d : Dt} {lo hi : Int} (h : rowD d lo hi = true) : ∃ z ds, d = .tup z ds ∧ lo ≤ (ds.length : Int) ∧ (ds.length : Int) ≤ hi := by
  cases d with
  | tup z ds =>
    have h2 : (decide (lo ≤ (ds.length : Int)) && decide ((ds.length : Int) ≤ hi)) = true := h
    rw [Bool.and_eq_true] at h2
    exact ⟨z, ds, rfl, of_decide_eq_true h2.1, of_decide_eq_true h2.2⟩
  | _ => exact nomatch h
theorem tup_ob {H : Hp} {p : Addr} {v : V} {z : Bool} {ds : List Dt} (h : Ob H p v (.tup z ds)) : ∃ a xs, v = .ref a ∧ Tp H a z xs ∧ a ≠ p ∧ Obs H p xs ds := by
  cases h with
  | tup e ne all => exact ⟨_, _, rfl, e, ne, all⟩
theorem len4 {α : Type} {l : List α} (h : l.length = 4) : ∃ a b c d, l = [a, b, c, d] := by
  match l, h with
  | [a, b, c, d], _ => exact ⟨a, b, c, d, rfl⟩
theorem len5 {α : Type} {l : List α} (h : l.length = 5) : ∃ a b c d e, l = [a, b, c, d, e] := by
  match l, h with
  | [a, b, c, d, e], _ => exact ⟨a, b, c, d, e, rfl⟩
theorem len6 {α : Type} {l : List α} (h : l.length = 6) : ∃ a b c d e f, l = [a, b, c, d, e, f] := by
  match l, h with
  | [a, b, c, d, e, f], _ => exact ⟨a, b, c, d, e, f, rfl⟩
theorem obs_cons {H : Hp} {p : Addr} {xs : List V} {d : Dt} {ds : List Dt} (h : Obs H p xs (d :: ds)) : ∃ v vs, xs = v :: vs ∧ Ob H p v d ∧ Obs H p vs ds := by
  cases h with
  | cons h t => exact ⟨_, _, rfl, h, t⟩
theorem obs_nil {H : Hp} {p : Addr} {xs : List V} (h : Obs H p xs []) : xs = [] := by
  cases h; rfl
theorem obs4 {H : Hp} {p : Addr} {xs : List V} {a b c d : Dt} (h : Obs H p xs [a, b, c, d]) : ∃ v1 v2 v3 v4, xs = [v1, v2, v3, v4] ∧ Ob H p v1 a ∧ Ob H p v2 b ∧ Ob H p v3 c ∧ Ob H p v4 d := by
  obtain ⟨v1, _, rfl, o1, h⟩ := obs_cons h
  obtain ⟨v2, _, rfl, o2, h⟩ := obs_cons h
  obtain ⟨v3, _, rfl, o3, h⟩ := obs_cons h
  obtain ⟨v4, _, rfl, o4, h⟩ := obs_cons h
  have z := obs_nil h
  subst z
  exact ⟨v1, v2, v3, v4, rfl, o1, o2, o3, o4⟩
theorem obs5 {H : Hp} {p : Addr} {xs : List V} {a b c d e : Dt} (h : Obs H p xs [a, b, c, d, e]) : ∃ v1 v2 v3 v4 v5, xs = [v1, v2, v3, v4, v5] ∧ Ob H p v1 a ∧ Ob H p v2 b ∧ Ob H p v3 c ∧ Ob H p v4 d ∧ Ob H p v5 e := by
  obtain ⟨v1, _, rfl, o1, h⟩ := obs_cons h
  obtain ⟨v2, v3, v4, v5, rfl, h2⟩ := obs4 h
  exact ⟨v1, v2, v3, v4, v5, rfl, o1, h2⟩
theorem obs6 {H : Hp} {p : Addr} {xs : List V} {a b c d e f : Dt} (h : Obs H p xs [a, b, c, d, e, f]) : ∃ v1 v2 v3 v4 v5 v6, xs = [v1, v2, v3, v4, v5, v6] ∧ Ob H p v1 a ∧ Ob H p v2 b ∧ Ob H p v3 c ∧ Ob H p v4 d ∧ Ob H p v5 e ∧ Ob H p v6 f := by
  obtain ⟨v1, _, rfl, o1, h⟩ := obs_cons h
  obtain ⟨v2, v3, v4, v5, v6, rfl, h2⟩ := obs5 h
  exact ⟨v1, v2, v3, v4, v5, v6, rfl, o1, h2⟩
/-- all([test of x for x in t]), t handed by tl -/
theorem all_comp2 {K : PySem.W.Frag} {xs : List V} {ds : List Dt} {i0 : Nat} {tl te : TE} {σ : L2.St} {H : Hp} {Q : VK} {p : Addr} (f : Dt → Bool) (htl : ∀ R : VK, (∀ a H1, Same H H1 → H1 a = some (.tup xs) → R (.ref a) H1) → tl σ H R) (hO : Obs H p xs ds) (hl : xs.length ≤ 1000)
    (hte : ∀ (x : V) (d : Dt) (H' : Hp) (R : VK), Same H H' → Ob H' p x d → (∀ H2, Same H' H2 → R (.bl (f d)) H2) → te ((wipe σ [i0]).set i0 (some x)) H' R)
    (hw : ∀ x : V, wipe ((wipe σ [i0]).set i0 (some x)) [i0] = wipe σ [i0])
    (q : ∀ H', Same H H' → Q (.bl (ds.all f)) H') : tCB (rAll K) (tCons (tLc (iTup K tl) (gName i0) tYes te [i0]) tNil) σ H Q := by
  refine htl _ fun a H1 kk hT => ⟨a, rfl, ⟨_, SqT.of hT⟩, fun D hD => ?_⟩
  have len := hO.len
  refine lc_tup (K := K) (a := a) (xs := xs) (fun i H' => Same H1 H' ∧ H' D = some (.lst (((ds.take i).map f).map V.bl))) ⟨same_upd hD, upd_same⟩ (fun i H' _ h => SqT.of (h.1 _ _ hT)) ?_ ?_
  · rintro i x H' hx ⟨k, e⟩
    obtain ⟨d, hd, ob⟩ := (hO.same (kk.trans k)).get hx
    refine ⟨hw x, hte x d H' _ (kk.trans k) ob fun H2 k2 => ⟨_, k2 _ _ e, ?_, fun c o hc => ?_, ?_⟩⟩
    · rw [List.length_map, List.length_map, List.length_take]
      exact Nat.lt_of_le_of_lt (show _ ≤ 1000 by omega) (by decide)
    · rw [upd_ne (ne_of_none hc hD)]; exact k2 _ _ (k c o hc)
    · rw [upd_same, List.take_add_one, hd, List.map_append, List.map_append]; rfl
  · rintro H' ⟨k, e⟩
    rw [len, List.take_length] at e
    refine ⟨D, _, rfl, SqL.of e, ?_⟩
    have e2 : (ds.map f).all id = ds.all f := by rw [List.all_map]; rfl
    rw [e2]
    exact q H' (kk.trans k)
variable {P : Program} {w : World} {K : PySem.W.Frag} {mg : Str → Option Value} {base : Heap}
theorem ok_is_row (T : Txt K mg) : FnOk P w K mg base CX0 1 T.a_is_row T.d_is_row ["thing", "low", "high"] spRow := by
  refine T.F_is_row.ok sc_is_row (fun vs H Q E h => ?_) (fun cdv A outer s H vs Q E hr h => ?_)
  · obtain ⟨p, x, d, lo, hi, rfl, _⟩ := h
    rfl
  · obtain ⟨p, x, d, lo, hi, rfl, ob, q⟩ := h
    refine ⟨_, (pss_one (ps_ret (pe_and (pe_callB call_isi (by rfl) T.z_isinstance (by decide +kernel) (pa_cons (pv 0) (pa_cons (pe_bltn (v := .ty "tuple") (by rfl) T.z_tuple (by decide +kernel) rfl) pa_nil))) (pe_one (pe_chain op_le op_le (pv 1) (pe_callB call_len_seq (by rfl) T.z_len (by decide +kernel) (pa_cons (pv 0) pa_nil)) (pv 2)))))), ?_⟩
    refine ⟨x, rfl, x, _, _, _, _, rfl, .ty _, (ob.arg (K := K)).ty, kit_t d, _, rfl, ?_⟩
    cases ob with
    | @tup a z xs ds e ne all =>
      have len := all.len
      refine iteT ⟨_, rfl, _, rfl, _, _, rfl, .inr e.sq, lo, _, rfl, rfl, _, rfl, ite2 (fun h1 => ?_) (fun h1 => ?_)⟩
      · refine ⟨_, rfl, _, hi, rfl, rfl, ?_⟩
        have e2 : rowD (.tup z ds) lo hi = decide ((xs.length : Int) ≤ hi) := by
          show (decide (lo ≤ (ds.length : Int)) && decide ((ds.length : Int) ≤ hi)) = _
          rw [← len, h1, Bool.true_and]
        rw [e2] at q
        exact q
      · have e2 : rowD (.tup z ds) lo hi = false := by
          show (decide (lo ≤ (ds.length : Int)) && decide ((ds.length : Int) ≤ hi)) = _
          rw [← len, Bool.eq_false_iff.mpr h1, Bool.false_and]
        rw [e2] at q
        exact q
    | _ => exact iteF q
theorem ok_is_counts (T : Txt K mg) : FnOk P w K mg base CX0 2 T.a_is_counts T.d_is_counts ["thing"] (spIs (fun _ => True) countsD) := by
  refine T.F_is_counts.ok sc_is_counts (fun vs H Q E h => ?_) (fun cdv A outer s H vs Q E hr h => ?_)
  · obtain ⟨p, x, d, rfl, _⟩ := h
    rfl
  · obtain ⟨p, x, d, rfl, ob, fz, q⟩ := h
    refine ⟨_, (pss_one (ps_ret (pe_and (pe_call (ok_is_row T) (hr.mono (by decide)) rfl T.g_is_row T.F_is_row.kp T.b_is_row .nil pass0 (pa_cons (pv 0) (pa_cons pe_int (pa_cons pe_int pa_nil)))) (pe_one (pe_callB (cr_all rfl) (by rfl) T.z_all (by decide +kernel) (pa_cons (pe_lc (own := [("count", 1)]) (g := gName 1) (tt := tYes) (by rfl) sc_is_counts.nd (pi_tup (pv 0)) (blkOk_by (own := [("count", 1)]) (N := ["thing", "count"]) (sc := defScope s_is_counts) (by decide +kernel)) (fun _ _ _ _ _ => (pg_name (i := 1) sc_is_counts.nd rfl (Or.inl rfl))) (fun _ _ _ _ _ => pts_nil) (fun _ _ _ _ _ => (pe_call (ok_is_whole T) (hr.mono (by decide)) rfl T.g_is_whole T.F_is_whole.kp T.b_is_whole .nil pass0 (pa_cons (pv 1) (pa_cons pe_int (pa_cons (pe_glob rfl T.g_GREATEST_OF_COUNTS T.r_GREATEST_OF_COUNTS) pa_nil)))))) pa_nil)))))), ?_⟩
    refine ⟨x, rfl, p, x, d, 2, 3, rfl, ob, _, rfl, ?_⟩
    cases e : rowD d 2 3 with
    | false =>
      have e2 : countsD d = false := by unfold countsD; rw [e]; rfl
      rw [e2] at q
      exact iteF (q _ fun _ _ z => z)
    | true =>
      obtain ⟨z, ds, rfl, l1, l2⟩ := row_len e
      obtain ⟨a, xs, rfl, ea, ne, all⟩ := tup_ob ob
      have e2 : countsD (.tup z ds) = ds.all fun x => wholeD x 1 4 := by unfold countsD; rw [e]; rfl
      rw [e2] at q
      have ll := all.len
      refine iteT (all_comp (K := K) (fun x => wholeD x 1 4) rfl ea all (by omega) (fun y dy H' R k oy h => ?_) (fun _ => rfl) q)
      have r := h _ fun _ _ z => z
      rw [← whole_ob oy] at r
      exact ⟨y, rfl, y, 1, 4, _, rfl, oy.arg, r⟩
end

/-! ### courses, renamings: what they are -/
def rowOf : Dt → List Int
  | .tup _ ds => ds.map Lc.intD
  | _ => []
theorem rowOf_int (ns : List Int) : rowOf (intT' ns) = ns := by
  show (ns.map Dt.int).map Lc.intD = ns
  rw [List.map_map]
  exact List.map_id ns
def snocR (r : List Int) (l : Nat) : List Int := r ++ [(l : Int)]
def coursesM (cs : List Int) : List (List Int) := cs.foldl (fun acc c => acc.flatMap fun r => (List.range c.toNat).map (snocR r)) [[]]
def roomM (cs : List Int) (old : Nat) : Int := minL (cs.filter fun c => decide ((old : Int) < c))
def renStep (room : Nat) (acc : List (List Int)) : List (List Int) := acc.flatMap fun r => ((List.range room).filter fun (j : Nat) => !decide ((j : Int) ∈ r)).map (snocR r)
def renM (cs : List Int) : List (List Int) := (List.range (maxL cs).toNat).foldl (fun acc old => renStep (roomM cs old).toNat acc) [[]]
def renamedM (c ls : List Int) : List Int := c.map fun l => ls.getD l.toNat 0
def minRows : List (List Int) → List Int
  | [] => []
  | x :: r => minR x r
def leastM (cs c : List Int) : List Int := minRows ((renM cs).map fun ls => renamedM c ls)
def smallM (cs : List Int) : List (List Int) := (coursesM cs).filter fun c => decide (c = leastM cs c)
/-- good counts -/
structure Cnt (cs : List Int) : Prop where
  l1 : 2 ≤ cs.length
  l2 : cs.length ≤ 3
  all : ∀ c ∈ cs, 1 ≤ c ∧ c ≤ 4
def rowsT (rows : List (List Int)) : Dt := .lst (rows.map intT')
def allCnt : List (List Int) := (coursesM [4, 4] ++ coursesM [4, 4, 4]).map fun r => r.map (· + 1)
theorem mem_coursesM_snoc (cs : List Int) (c : Int) : coursesM (cs ++ [c]) = (coursesM cs).flatMap fun r => (List.range c.toNat).map (snocR r) := by
  unfold coursesM; rw [List.foldl_append]; rfl
theorem cnt_mem {cs : List Int} (h : Cnt cs) : cs ∈ allCnt := by
  obtain ⟨h1, h2, h3⟩ := h
  have key : ∀ c : Int, 1 ≤ c ∧ c ≤ 4 → c = 1 ∨ c = 2 ∨ c = 3 ∨ c = 4 := fun c _ => by omega
  match cs, h1, h2, h3 with
  | [a, b], _, _, h =>
    rcases key a (h a (by simp)) with rfl | rfl | rfl | rfl <;> rcases key b (h b (by simp)) with rfl | rfl | rfl | rfl <;> decide +kernel
  | [a, b, c], _, _, h =>
    rcases key a (h a (by simp)) with rfl | rfl | rfl | rfl <;> rcases key b (h b (by simp)) with rfl | rfl | rfl | rfl <;> rcases key c (h c (by simp)) with rfl | rfl | rfl | rfl <;> decide +kernel
  | a :: b :: c :: d :: r, _, h2, _ => simp at h2
/-- a fact of all counts, by the kernel -/
theorem cnt_all {p : List Int → Bool} (h : allCnt.all p = true) {cs : List Int} (c : Cnt cs) : p cs = true := List.all_eq_true.mp h cs (cnt_mem c)
def wellOk (cs : List Int) : Bool :=
  (coursesM cs).length ≤ 64 && (renM cs).length ≤ 24 && !(renM cs).isEmpty && (renM cs).all (fun ls => ls.length = (maxL cs).toNat) && (coursesM cs).all (fun c => c.all fun l => decide (0 ≤ l) && decide (l.toNat < (maxL cs).toNat)) &&
  (List.range (maxL cs).toNat).all (fun old => decide (0 ≤ roomM cs old) && decide (roomM cs old ≤ 4) && !(cs.filter fun c => decide ((old : Int) < c)).isEmpty) && decide (1 ≤ maxL cs) && decide (maxL cs ≤ 4) &&
  (List.range (cs.length + 1)).all (fun i => (coursesM (cs.take i)).length ≤ 64 && (coursesM (cs.take i)).all fun r => r.length ≤ 3) && (List.range ((maxL cs).toNat + 1)).all (fun i => ((List.range i).foldl (fun acc old => renStep (roomM cs old).toNat acc) [[]]).length ≤ 24 && ((List.range i).foldl (fun acc old => renStep (roomM cs old).toNat acc) [[]]).all fun r => r.length = i)
theorem well_all : allCnt.all wellOk = true := by decide +kernel
structure Well (cs : List Int) : Prop where
  c64 : (coursesM cs).length ≤ 64
  r24 : (renM cs).length ≤ 24
  rne : renM cs ≠ []
  rl : ∀ ls ∈ renM cs, ls.length = (maxL cs).toNat
  cl : ∀ c ∈ coursesM cs, ∀ l ∈ c, 0 ≤ l ∧ l.toNat < (maxL cs).toNat
  room : ∀ old, old < (maxL cs).toNat → 0 ≤ roomM cs old ∧ roomM cs old ≤ 4 ∧ (cs.filter fun c => decide ((old : Int) < c)) ≠ []
  m1 : 1 ≤ maxL cs
  m4 : maxL cs ≤ 4
  cpre : ∀ i, i ≤ cs.length → (coursesM (cs.take i)).length ≤ 64 ∧ ∀ r ∈ coursesM (cs.take i), r.length ≤ 3
  rpre : ∀ i, i ≤ (maxL cs).toNat → ((List.range i).foldl (fun acc old => renStep (roomM cs old).toNat acc) [[]]).length ≤ 24 ∧ ∀ r ∈ (List.range i).foldl (fun acc old => renStep (roomM cs old).toNat acc) [[]], r.length = i
theorem well {cs : List Int} (h : Cnt cs) : Well cs := by
  have w := cnt_all well_all h
  unfold wellOk at w
  simp only [Bool.and_eq_true, decide_eq_true_eq, List.all_eq_true, List.mem_range, Bool.not_eq_true', List.isEmpty_eq_false_iff] at w
  obtain ⟨⟨⟨⟨⟨⟨⟨⟨⟨w1, w2⟩, w3⟩, w4⟩, w5⟩, w6⟩, w7⟩, w8⟩, w9⟩, w10⟩ := w
  refine ⟨w1, w2, w3, w4, w5, fun old ho => ?_, w7, w8, fun i hi => w9 i (by omega), fun i hi => ?_⟩
  · obtain ⟨⟨a, b⟩, c⟩ := w6 old ho
    exact ⟨a, b, c⟩
  · exact w10 i (by omega)
/-! ### promises -/
def spRows (f : List Int → List (List Int)) : Sp := fun vs H Q _ => ∃ (S : AS) (x : V) (cs : List Int), vs = [x] ∧ Oc H S x (intT' cs) ∧ Cnt cs ∧ Lv H S ∧ ∀ v H', Same H H' → Oc H' S v (rowsT (f cs)) → Q v H'
def spCourses : Sp := fun vs H Q _ => ∃ (S S2 : AS) (x : V) (cs : List Int), vs = [x] ∧ Oc H S x (intT' cs) ∧ Cnt cs ∧ Lv H S2 ∧ ∀ v H', Same H H' → Oc H' S2 v (rowsT (coursesM cs)) → Q v H'
/-- who checks the counts, then hands back f's list -/
def spSm (exc : String → Addr) (f : List Int → List (List Int)) : Sp := fun vs H Q E => ∃ (S : AS) (x : V) (d : Dt) (p : Addr), vs = [x] ∧ Oc H S x d ∧ S p ∧ Lv H S ∧
    (countsD d = false → ∀ H', Same H H' → E (.ref (exc "BadCounts")) none H') ∧ (∀ cs, d = intT' cs → Cnt cs → ∀ v H', Same H H' → Oc H' S v (rowsT (f cs)) → Q v H') ∧ (countsD d = false ∨ ∃ cs, d = intT' cs ∧ Cnt cs)
def spAl (exc : String → Addr) (f : List Int → List (List Int)) : Sp := fun vs H Q E => ∃ (S S2 : AS) (x : V) (d : Dt) (p : Addr), vs = [x] ∧ Oc H S x d ∧ S p ∧ Lv H S2 ∧
    (countsD d = false → ∀ H', Same H H' → E (.ref (exc "BadCounts")) none H') ∧ (∀ cs, d = intT' cs → Cnt cs → ∀ v H', Same H H' → Oc H' S2 v (rowsT (f cs)) → Q v H') ∧ (countsD d = false ∨ ∃ cs, d = intT' cs ∧ Cnt cs)
def spRenamed : Sp := fun vs H Q _ => ∃ (S : AS) (x y : V) (c ls : List Int), vs = [x, y] ∧ Oc H S x (intT' c) ∧ Oc H S y (intT' ls) ∧ (∀ l ∈ c, 0 ≤ l ∧ l.toNat < ls.length) ∧ c.length ≤ 1000 ∧ Lv H S ∧ ∀ v H', Same H H' → Oc H' S v (intT' (renamedM c ls)) → Q v H'
/-- the check of counts -/
def spChkCnt (exc : String → Addr) : Sp := fun vs H Q E => ∃ (p : Addr) (x : V) (d : Dt), vs = [x] ∧ Ob H p x d ∧ ∀ H', Same H H' → (countsD d = false → E (.ref (exc "BadCounts")) none H') ∧ (countsD d = true → Q .non H')
theorem counts_cnt {cs : List Int} (h : Cnt cs) : countsD (intT' cs) = true := by
  unfold countsD
  have e1 : rowD (intT' cs) 2 3 = true := by
    show (decide ((2 : Int) ≤ ((cs.map Dt.int).length : Int)) && decide (((cs.map Dt.int).length : Int) ≤ 3)) = true
    rw [List.length_map, decide_eq_true (by have := h.l1; omega), decide_eq_true (by have := h.l2; omega)]; rfl
  rw [e1, Bool.true_and, List.all_eq_true]
  intro d hd
  obtain ⟨c, hc, rfl⟩ := List.mem_map.mp (show d ∈ cs.map Dt.int from hd)
  obtain ⟨a, b⟩ := h.all c hc
  show (decide (1 ≤ c) && decide (c ≤ 4)) = true
  rw [decide_eq_true a, decide_eq_true b]; rfl
theorem rowOf_conv (f : List Int → List Nat) (rows : List (List Int)) (n : Nat) (p : List Int → Nat → Bool) :
    ((rows.map intT').flatMap fun d => (upto n).filterMap fun e => if p (rowOf d) (Lc.intD e).toNat = true then some (intT' (rowOf d ++ [Lc.intD e])) else none) =
    (rows.flatMap fun r => ((List.range n).filter (p r)).map (snocR r)).map intT' := by
  rw [List.flatMap_map, List.map_flatMap]
  congr 1
  funext r
  rw [rowOf_int]
  unfold upto
  rw [List.filterMap_map, List.map_map]
  induction List.range n with
  | nil => rfl
  | cons j t ih =>
    rw [List.filterMap_cons, List.filter_cons]
    have e : ((fun e => if p r (Lc.intD e).toNat = true then some (intT' (r ++ [Lc.intD e])) else none) ∘ fun (i : Nat) => Dt.int i) j = if p r j = true then some (intT' (snocR r j)) else none := by
      show (if p r ((j : Int)).toNat = true then _ else _) = _
      rw [Int.toNat_natCast]; rfl
    rw [e]
    by_cases h : p r j = true
    · rw [if_pos h, if_pos h, List.map_cons]
      exact congrArg _ ih
    · rw [if_neg h, if_neg h]
      exact ih
section
variable {P : Program} {w : World} {K : PySem.W.Frag} {mg : Str → Option Value} {base : Heap}
theorem ok_check_counts (T : Txt K mg) : FnOk P w K mg base (L2.CX P w) 3 T.a_check_counts T.d_check_counts ["counts"] (spChkCnt T.exc) := by
  refine T.F_check_counts.okX sc_check_counts (fun vs H Q E h => ?_) (fun cdv A outer s H vs Q E hr h => ?_)
  · obtain ⟨p, x, d, rfl, _⟩ := h
    rfl
  · obtain ⟨p, x, d, rfl, ob, q⟩ := h
    refine ⟨_, (pss_one (ps_if (pt_not (pt_val (pe_call (ok_is_counts T) (hr.mono (by decide)) rfl T.g_is_counts T.F_is_counts.kp T.b_is_counts .nil pass0 (pa_cons (pv 0) pa_nil))))
      (pss_one (ps_raise rfl (takes_of rfl rfl rfl rfl) (pmk_own PySem.F.excBase_ValueError T.x_BadCounts T.g_BadCounts T.k_BadCounts (raises_own T.p_BadCounts T.t_BadCounts) rfl)))
      pss_nil)), ?_⟩
    refine ⟨x, rfl, p, x, d, rfl, ob, trivial, fun H' k => ⟨_, rfl, ?_⟩⟩
    obtain ⟨q1, q2⟩ := q H' k
    cases e : countsD d with
    | false => exact iteT (q1 e)
    | true => exact iteF (q2 e)
theorem ok_renamed (T : Txt K mg) : FnOk P w K mg base CX0 1 T.a_renamed T.d_renamed ["course", "lanes"] spRenamed := by
  refine T.F_renamed.ok sc_renamed (fun vs H Q E h => ?_) (fun cdv A outer s H vs Q E hr h => ?_)
  · obtain ⟨S, x, y, c, ls, rfl, _⟩ := h
    rfl
  · obtain ⟨S, x, y, c, ls, rfl, ox, oy, hl, hz, lv, q⟩ := h
    refine ⟨_, (pss_one (ps_ret (pe_tupleOfF (by rfl) T.z_tuple (pe_lc (own := [("lane", 2)]) (g := gName 2) (tt := tYes) (by rfl) sc_renamed.nd (pi_tup (pv 0)) (blkOk_by (own := [("lane", 2)]) (N := ["course", "lanes", "lane"]) (sc := defScope s_renamed) (by decide +kernel)) (fun _ _ _ _ _ => (pg_name (i := 2) sc_renamed.nd rfl (Or.inl rfl))) (fun _ _ _ _ _ => pts_nil) (fun _ _ _ _ _ => (pe_ix (ixT K) (pv 1) (pv 2) (fun _ _ => rfl))))))), ?_⟩
    have d1 : DE (tLc (iTup K (tVar 0)) (gName 2) tYes (tOp (rIxT K) (tVar 1) (tVar 2)) [2]) [some x, some y, none] H S (.lst ((c.map Dt.int).filterMap fun d => some (.int (ls.getD (Lc.intD d).toNat 0)))) := by
      refine D_lcT (D_var rfl ox) (by rw [List.length_map]; omega) fun v d H1 S1 hd lf od => ?_
      obtain ⟨l, hl2, rfl⟩ := List.mem_map.mp hd
      have e := od.int_inv
      subst e
      obtain ⟨l0, l1⟩ := hl l hl2
      obtain ⟨n, rfl⟩ : ∃ n : Nat, l = n := ⟨l.toNat, by omega⟩
      rw [Int.toNat_natCast] at l1
      refine turn_map rfl lf.live (D_ixT (D_var rfl (lf.ob oy)) (D_var rfl od) ?_)
      rw [List.getElem?_map, List.getElem?_eq_getElem l1]
      show some (Dt.int ls[n]) = some (.int (ls.getD ((n : Int)).toNat 0))
      rw [Int.toNat_natCast, List.getD_eq_getElem?_getD, List.getElem?_eq_getElem l1]; rfl
    refine S_ret (D_tupleOf d1) lv fun v H2 k o => q v H2 k ?_
    have e : (c.map Dt.int).filterMap (fun d => some (Dt.int (ls.getD (Lc.intD d).toNat 0))) = (renamedM c ls).map Dt.int := by
      unfold renamedM
      rw [List.filterMap_map, List.map_map]
      exact List.filterMap_eq_map ▸ rfl
    rw [e] at o
    exact o
theorem ok_courses_of (T : Txt K mg) : FnOk P w K mg base CX0 1 T.a_courses_of T.d_courses_of ["counts"] spCourses := by
  refine T.F_courses_of.ok sc_courses_of (fun vs H Q E h => ?_) (fun cdv A outer s H vs Q E hr h => ?_)
  · obtain ⟨S, S2, x, cs, rfl, _⟩ := h
    rfl
  · obtain ⟨S, S2, x, cs, rfl, ox, hc, lv, q⟩ := h
    have wl := well hc
    refine ⟨_, (pss_cons (ps_set (i := 1) sc_courses_of.nd rfl (Or.inl rfl) (pe_lst (pa_cons (pe_tupF pa_nil) pa_nil)))
      (pss_cons (ps_for PassesOwn.never rfl (pi_tup (pv 0)) (pg_name (i := 2) sc_courses_of.nd rfl (Or.inr rfl))
      (pss_one (ps_setLc2 (i := 1) (own := [("course", 3), ("lane", 4)]) (vs1 := [4]) (g := gName 3) (g1 := gName 4) (tt := tYes) (tt1 := tYes) (by rfl) sc_courses_of.nd rfl rfl (sw_true rfl rfl rfl (by decide +kernel)) (pi_list (pv 1)) (blkOk_by (own := [("course", 3), ("lane", 4)]) (N := ["counts", "courses", "count", "course", "lane"]) (sc := defScope s_courses_of) (by decide +kernel)) (by decide) (fun _ _ _ _ _ => (pg_name (i := 3) sc_courses_of.nd rfl (Or.inl rfl))) (fun _ _ _ _ _ => pts_nil) (fun _ _ _ _ _ => (pi_range1 rfl T.z_range (pa_cons (pv 2) pa_nil))) (fun _ _ _ _ _ => (pg_name (i := 4) sc_courses_of.nd rfl (Or.inl rfl))) (fun _ _ _ _ _ => pts_nil) (fun _ _ _ _ _ => (pe_op (op_catFK K) (pv 3) (pe_tupF (pa_cons (pv 4) pa_nil)))))))
      (pss_one (ps_ret (pv 1))))), ?_⟩
    have d0 : DE (tLst (tCons (tTupF tNil) tNil)) [some x, none, none, none, none] H S2 (rowsT (coursesM [])) := D_lst (D_cons (D_tup D_nil (by decide)) D_nil) (by decide)
    refine S_set d0 lv fun v H1 k1 o1 => ?_
    obtain ⟨a, xs, rfl, ea, na, oa⟩ := ox.tup_inv
    have ei := oa.ints
    subst ei
    refine ⟨_, rfl, a, rfl, ⟨_, (ea.same k1).sq⟩, for_tup (fun i σ' H' => ∃ (v : V) (c2 : Option V), σ' = [some (.ref a), some v, c2, none, none] ∧ Same H H' ∧ Oc H' S2 v (rowsT (coursesM (cs.take i)))) ⟨v, none, rfl, k1, o1⟩ (fun i σ' H' _ h => by
      obtain ⟨v, c2, rfl, k, o⟩ := h
      exact (ea.same k).sq) ?_ ?_⟩
    · rintro i y σ' H' hy ⟨v, c2, rfl, k, o⟩
      rw [List.getElem?_map] at hy
      obtain ⟨c, hc2, rfl⟩ := Option.map_eq_some_iff.mp hy
      obtain ⟨n, rfl⟩ : ∃ n : Nat, c = n := ⟨c.toNat, by have := (hc.all c (List.mem_of_getElem? hc2)).1; omega⟩
      have n4 := (hc.all _ (List.mem_of_getElem? hc2)).2
      have hi : i < cs.length := by
        obtain ⟨z, _⟩ := List.getElem?_eq_some_iff.mp hc2
        exact z
      have d1 := D_lc2LR (K := K) (i0 := 3) (i1 := 4) (tt1 := tYes) (te := tOp (rCatF K) (tVar 3) (tTupF (tCons (tVar 4) tNil))) (tl := tVar 1) (tn := tVar 2) (n := fun _ => n) (r := fun d e => if (fun (_ : List Int) (_ : Nat) => true) (rowOf d) (Lc.intD e).toNat = true then some (intT' (rowOf d ++ [Lc.intD e])) else none)
        (σ := [some (.ref a), some v, some (.int (n : Nat)), none, none]) (D_var rfl o) (by rw [List.length_map]; have := (wl.cpre i (by omega)).1; omega) (fun _ _ => by omega) (fun _ => rfl) (fun u d H1 S1 hd lf od => D_var rfl (.int _)) fun u d H1 S1 j hd hj lf od => by
          obtain ⟨row, hrow, rfl⟩ := List.mem_map.mp hd
          rw [rowOf_int, if_pos rfl]
          refine turn_map rfl lf.live (D_eq (D_cat (ds := row.map Dt.int) (es := [.int (j : Nat)]) (D_var rfl od) (D_tup (D_cons (D_var rfl (.int _)) D_nil) (by show 1 ≤ 1000; decide)) ?_) ?_)
          · rw [List.length_map]; have h9 := (wl.cpre i (by omega)).2 row hrow; show row.length + 1 ≤ 1000; omega
          · unfold intT'; rw [List.map_append]; rfl
      refine S_set1 d1 (Lv.same k lv) fun u H2 k2 o2 => ⟨u, some (.int (n : Nat)), rfl, k.trans k2, ?_⟩
      rw [List.take_add_one, hc2]
      show Oc H2 S2 u (rowsT (coursesM (cs.take i ++ [(n : Int)])))
      rw [mem_coursesM_snoc]
      have e := rowOf_conv (fun _ => []) (coursesM (cs.take i)) n (fun _ _ => true)
      rw [e] at o2
      have e3 : ∀ r, ((List.range n).filter fun _ => true).map (snocR r) = (List.range n).map (snocR r) := fun r => by rw [List.filter_eq_self.mpr (fun _ _ => rfl)]
      simp only [e3] at o2
      exact o2
    · rintro σ' H' ⟨v, c2, rfl, k, o⟩
      rw [List.length_map, List.take_length] at o
      exact ⟨v, rfl, q v H' k o⟩
theorem max_foldl_take (cs : List Int) : (cs : List Int) = cs := rfl
theorem fm_ints (cs : List Int) (p : Int → Bool) : (cs.map Dt.int).filterMap (fun d => if p (Lc.intD d) = true then some d else none) = (cs.filter p).map Dt.int := by
  rw [List.filterMap_map]
  induction cs with
  | nil => rfl
  | cons c r ih =>
    rw [List.filterMap_cons, List.filter_cons]
    have e : ((fun d => if p (Lc.intD d) = true then some d else none) ∘ Dt.int) c = if p c = true then some (.int c) else none := rfl
    rw [e]
    by_cases h : p c = true
    · rw [if_pos h, if_pos h, List.map_cons]
      exact congrArg _ ih
    · rw [if_neg h, if_neg h]
      exact ih
theorem fm_rows (rows : List (List Int)) (p : List Int → Bool) : ((rows.map intT').filterMap fun d => if p (rowOf d) = true then some d else none) = (rows.filter p).map intT' := by
  rw [List.filterMap_map]
  induction rows with
  | nil => rfl
  | cons c r ih =>
    rw [List.filterMap_cons, List.filter_cons]
    have e : ((fun d => if p (rowOf d) = true then some d else none) ∘ intT') c = if p c = true then some (intT' c) else none := by
      show (if p (rowOf (intT' c)) = true then _ else _) = _
      rw [rowOf_int]
    rw [e]
    by_cases h : p c = true
    · rw [if_pos h, if_pos h, List.map_cons]
      exact congrArg _ ih
    · rw [if_neg h, if_neg h]
      exact ih
theorem ok_renamings_of (T : Txt K mg) : FnOk P w K mg base CX0 1 T.a_renamings_of T.d_renamings_of ["counts"] (spRows renM) := by
  refine T.F_renamings_of.ok sc_renamings_of (fun vs H Q E h => ?_) (fun cdv A outer s H vs Q E hr h => ?_)
  · obtain ⟨S, x, cs, rfl, _⟩ := h
    rfl
  · obtain ⟨S, x, cs, rfl, ox, hc, lv, q⟩ := h
    have wl := well hc
    refine ⟨_, (pss_cons (ps_set (i := 1) sc_renamings_of.nd rfl (Or.inl rfl) (pe_lst (pa_cons (pe_tupF pa_nil) pa_nil)))
      (pss_cons (ps_for PassesOwn.never rfl (pi_range1 rfl T.z_range (pa_cons (pe_callB (cr_maxT K (by rfl) hr.units) (by rfl) T.z_max (by decide +kernel) (pa_cons (pv 0) pa_nil)) pa_nil)) (pg_name (i := 2) sc_renamings_of.nd rfl (Or.inr rfl))
      (pss_cons (ps_set (i := 3) sc_renamings_of.nd rfl (Or.inr rfl) (pe_callB (cr_min rfl) (by rfl) T.z_min (by decide +kernel) (pa_cons (pe_lc (own := [("count", 6)]) (g := gName 6) (by rfl) sc_renamings_of.nd (pi_tup (pv 0)) (blkOk_by (own := [("count", 6)]) (N := ["counts", "renamings", "old", "room", "lanes", "new", "count"]) (sc := defScope s_renamings_of) (by decide +kernel)) (fun _ _ _ _ _ => (pg_name (i := 6) sc_renamings_of.nd rfl (Or.inl rfl))) (fun _ _ _ _ _ => (pts_one (pt_cmpR op_lt (pv 2) (pv 6) (nomark _)))) (fun _ _ _ _ _ => (pv 6))) pa_nil)))
      (pss_one (ps_setLc2 (i := 1) (own := [("lanes", 4), ("new", 5)]) (vs1 := [5]) (g := gName 4) (g1 := gName 5) (tt := tYes) (by rfl) sc_renamings_of.nd rfl rfl (sw_true rfl rfl rfl (by decide +kernel)) (pi_list (pv 1)) (blkOk_by (own := [("lanes", 4), ("new", 5)]) (N := ["counts", "renamings", "old", "room", "lanes", "new", "count"]) (sc := defScope s_renamings_of) (by decide +kernel)) (by decide) (fun _ _ _ _ _ => (pg_name (i := 4) sc_renamings_of.nd rfl (Or.inl rfl))) (fun _ _ _ _ _ => pts_nil) (fun _ _ _ _ _ => (pi_range1 rfl T.z_range (pa_cons (pv 3) pa_nil))) (fun _ _ _ _ _ => (pg_name (i := 5) sc_renamings_of.nd rfl (Or.inl rfl))) (fun _ _ _ _ _ => (pts_one (pt_cmpR (op_ninK K) (pv 5) (pv 4) rfl))) (fun _ _ _ _ _ => (pe_op (op_catFK K) (pv 4) (pe_tupF (pa_cons (pv 5) pa_nil))))))))
      (pss_one (ps_ret (pv 1))))), ?_⟩
    have d0 : DE (tLst (tCons (tTupF tNil) tNil)) [some x, none, none, none, none, none, none] H S (rowsT [[]]) := D_lst (D_cons (D_tup D_nil (by decide)) D_nil) (by decide)
    refine S_set d0 lv fun v H1 k1 o1 => ?_
    obtain ⟨a, xs, rfl, ea, na, oa⟩ := ox.tup_inv
    have ei := oa.ints
    subst ei
    obtain ⟨c0, r0, ecs⟩ : ∃ c0 r0, cs = c0 :: r0 := by
      cases cs with
      | nil => have := hc.l1; simp at this
      | cons c r => exact ⟨c, r, rfl⟩
    have em : r0.foldl max c0 = maxL cs := by rw [ecs]; rfl
    obtain ⟨m, hm⟩ : ∃ m : Nat, maxL cs = m := ⟨(maxL cs).toNat, by have := wl.m1; omega⟩
    have hm4 := wl.m4
    have mt : (maxL cs).toNat = m := by rw [hm]; exact Int.toNat_natCast m
    refine ⟨_, rfl, a, c0, r0, rfl, by rw [← ecs]; exact (ea.same k1).sq, ?_⟩
    rw [em, hm]
    refine ⟨_, rfl, by omega, by omega, ?_⟩
    rw [Int.toNat_natCast]
    refine for_range (n := m) (fun i σ' H' => ∃ (v : V) (c2 c3 : Option V), σ' = [some (.ref a), some v, c2, c3, none, none, none] ∧ Same H H' ∧ Oc H' S v (rowsT ((List.range i).foldl (fun acc old => renStep (roomM cs old).toNat acc) [[]]))) ⟨v, none, none, rfl, k1, o1⟩ ?_ ?_
    · rintro i σ' H' hi ⟨v, c2, c3, rfl, k, o⟩
      rw [Int.zero_add]
      obtain ⟨rm0, rm4, rmn⟩ := wl.room i (by omega)
      obtain ⟨rm, hrm⟩ : ∃ m : Nat, roomM cs i = m := ⟨(roomM cs i).toNat, by omega⟩
      have ox' : Oc H' S (.ref a) (intT' cs) := ox.same k
      have d1 : DE (tLc (iTup K (tVar 0)) (gName 6) (tTest (tOp (rI0 fun i j => .bl (decide (i < j))) (tVar 2) (tVar 6))) (tVar 6) [6]) [some (.ref a), some v, some (.int (i : Nat)), c3, none, none, none] H' S (.lst ((cs.map Dt.int).filterMap fun d => if decide ((i : Int) < Lc.intD d) = true then some d else none)) := by
        refine D_lcT (D_var rfl ox') (by rw [List.length_map]; have := hc.l2; omega) fun u d H1 S1 hd lf od => ?_
        obtain ⟨c, hcm, rfl⟩ := List.mem_map.mp hd
        have e := od.int_inv
        subst e
        exact turn_test rfl lf.live (fun H2 S2 R lf2 q => ⟨_, rfl, _, rfl, _, _, rfl, rfl, _, rfl, q _ (fun _ _ z => z)⟩) fun _ => D_var rfl od
      have ef : (cs.map Dt.int).filterMap (fun d => if decide ((i : Int) < Lc.intD d) = true then some d else none) = (cs.filter fun c => decide ((i : Int) < c)).map Dt.int := fm_ints cs fun c => decide ((i : Int) < c)
      rw [ef] at d1
      dsimp only [gName]
      refine S_set (D_minInts (K := K) d1 rmn) (Lv.same k lv) fun u H2 k2 o2 => ?_
      have eu : u = .int (rm : Nat) := by rw [← hrm]; exact o2.int_inv
      subst eu
      have wp := wl.rpre i (by omega)
      have d2 := D_lc2LR (K := K) (i0 := 4) (i1 := 5) (tt1 := tTest (tOp (rIn K true) (tVar 5) (tVar 4))) (te := tOp (rCatF K) (tVar 4) (tTupF (tCons (tVar 5) tNil))) (tl := tVar 1) (tn := tVar 3) (n := fun _ => rm) (r := fun d e => if (fun (r : List Int) (j : Nat) => !decide ((j : Int) ∈ r)) (rowOf d) (Lc.intD e).toNat = true then some (intT' (rowOf d ++ [Lc.intD e])) else none)
        (σ := [some (.ref a), some v, some (.int (i : Nat)), some (.int (rm : Nat)), none, none, none]) (D_var rfl (o.same k2)) (by rw [List.length_map]; have := wp.1; omega) (fun _ _ => by omega) (fun _ => rfl) (fun u d H1 S1 hd lf od => D_var rfl (.int _)) fun u d H1 S1 j hd hj lf od => by
          obtain ⟨row, hrow, rfl⟩ := List.mem_map.mp hd
          rw [rowOf_int]
          refine turn_test rfl lf.live (T_nin (ns := row) (D_var rfl (.int _)) (D_var rfl od)) fun _ => D_eq (D_cat (ds := row.map Dt.int) (es := [.int (j : Nat)]) (D_var rfl od) (D_tup (D_cons (D_var rfl (.int _)) D_nil) (by show 1 ≤ 1000; decide)) ?_) ?_
          · rw [List.length_map]; have h9 := wp.2 row hrow; show row.length + 1 ≤ 1000; omega
          · unfold intT'; rw [List.map_append]; rfl
      refine S_set1 d2 (Lv.same (k.trans k2) lv) fun u H3 k3 o3 => ⟨u, some (.int (i : Nat)), some (.int (rm : Nat)), rfl, (k.trans k2).trans k3, ?_⟩
      rw [List.range_succ, List.foldl_append]
      show Oc H3 S u (rowsT (renStep (roomM cs i).toNat _))
      rw [hrm, Int.toNat_natCast]
      have e := rowOf_conv (fun _ => []) ((List.range i).foldl (fun acc old => renStep (roomM cs old).toNat acc) [[]]) rm (fun r j => !decide ((j : Int) ∈ r))
      rw [e] at o3
      exact o3
    · rintro σ' H' ⟨v, c2, c3, rfl, k, o⟩
      refine ⟨v, rfl, q v H' k ?_⟩
      unfold renM
      rw [mt]; exact o
theorem rows_least {cs c : List Int} (h : renM cs ≠ []) : ∃ x xs, (renM cs).map (fun ls => renamedM c ls) = x :: xs := by
  cases e : renM cs with
  | nil => exact absurd e h
  | cons x r => exact ⟨_, _, rfl⟩
def spLeast : Sp := fun vs H Q _ => ∃ (S : AS) (x y : V) (c cs : List Int), vs = [x, y] ∧ Oc H S x (intT' c) ∧ Oc H S y (intT' cs) ∧ Cnt cs ∧ c ∈ coursesM cs ∧ Lv H S ∧ ∀ v H', Same H H' → Oc H' S v (intT' (leastM cs c)) → Q v H'
theorem ok_least_alike (T : Txt K mg) : FnOk P w K mg base CX0 2 T.a_least_alike T.d_least_alike ["course", "counts"] spLeast := by
  refine T.F_least_alike.ok sc_least_alike (fun vs H Q E h => ?_) (fun cdv A outer s H vs Q E hr h => ?_)
  · obtain ⟨S, x, y, c, cs, rfl, _⟩ := h
    rfl
  · obtain ⟨S, x, y, c, cs, rfl, od, oy, hc, hcm, lv, q⟩ := h
    have wl := well hc
    refine ⟨_, (pss_one (ps_ret (pe_callB (cr_minD K (by rfl) hr.units) (by rfl) T.z_min (by decide +kernel) (pa_cons (pe_lc (own := [("lanes", 2)]) (g := gName 2) (tt := tYes) (by rfl) sc_least_alike.nd (pi_list (pe_call (ok_renamings_of T) (hr.mono (by decide)) rfl T.g_renamings_of T.F_renamings_of.kp T.b_renamings_of .nil pass0 (pa_cons (pv 1) pa_nil))) (blkOk_by (own := [("lanes", 2)]) (N := ["course", "counts", "lanes"]) (sc := defScope s_least_alike) (by decide +kernel)) (fun _ _ _ _ _ => (pg_name (i := 2) sc_least_alike.nd rfl (Or.inl rfl))) (fun _ _ _ _ _ => pts_nil) (fun _ _ _ _ _ => (pe_call (ok_renamed T) (hr.mono (by decide)) rfl T.g_renamed T.F_renamed.kp T.b_renamed .nil pass0 (pa_cons (pv 0) (pa_cons (pv 2) pa_nil))))) pa_nil)))), ?_⟩
    obtain ⟨lx, lxs, el⟩ : ∃ x xs, renM cs = x :: xs := by
      cases e : renM cs with
      | nil => exact absurd e wl.rne
      | cons x r => exact ⟨_, _, rfl⟩
    have e1 : leastM cs c = minR (renamedM c lx) (lxs.map fun ls => renamedM c ls) := by
      unfold leastM; rw [el]; rfl
    rw [e1] at q
    refine S_ret (D_minRows (K := K) (D_eq (D_lcL (K := K) (ds := (renM cs).map intT') (r := fun d => some (intT' (renamedM c (rowOf d)))) (D_fn (D_cons (D_var rfl oy) D_nil) fun H3 S3 vs R lf ovs qq => ?_) (by rw [List.length_map]; have := wl.r24; omega) fun u e H4 S4 he lf4 oe => ?_) ?_)) lv q
    · obtain ⟨u, rfl, ou⟩ := ovs.one
      exact ⟨S3, u, cs, rfl, ou, hc, lf.live, fun v H4 k4 o4 => qq v H4 k4 o4⟩
    · obtain ⟨ls, hls, rfl⟩ := List.mem_map.mp he
      rw [rowOf_int]
      refine turn_map rfl lf4.live (D_fn (D_cons (D_var rfl (lf4.ob od)) (D_cons (D_var rfl oe) D_nil)) fun H5 S5 vs R lf5 ovs qq => ?_)
      obtain ⟨a, b, rfl, oa, ob⟩ := ovs.two
      refine ⟨S5, a, b, c, ls, rfl, oa, ob, fun l hl => ?_, ?_, lf5.live, qq⟩
      · rw [wl.rl ls hls]; exact wl.cl c hcm l hl
      · have := (wl.cpre cs.length (Nat.le_refl _)).2 c (by rw [List.take_length]; exact hcm)
        omega
    · rw [el, List.filterMap_map]
      show Dt.lst _ = Dt.lst _
      congr 1
      rw [← List.map_cons (f := fun ls => renamedM c ls), List.map_map]
      have e2 : ((fun d => some (intT' (renamedM c (rowOf d)))) ∘ intT') = fun ls => some (intT' (renamedM c ls)) := by
        funext ls; show some (intT' (renamedM c (rowOf (intT' ls)))) = _; rw [rowOf_int]
      rw [e2]
      exact List.filterMap_eq_map ▸ rfl
theorem ok_small_courses (T : Txt K mg) : FnOk P w K mg base (L2.CX P w) 4 T.a_small_courses T.d_small_courses ["counts"] (spSm T.exc smallM) := by
  refine T.F_small_courses.okX sc_small_courses (fun vs H Q E h => ?_) (fun cdv A outer s H vs Q E hr h => ?_)
  · obtain ⟨S, x, d, p, rfl, _⟩ := h
    rfl
  · obtain ⟨S, x, d, p, rfl, ox, hp, lv, qe, q, hd⟩ := h
    refine ⟨_, (pss_cons (ps_expr (pe_call (ok_check_counts T) (hr.mono (by decide)) rfl T.g_check_counts T.F_check_counts.kp T.b_check_counts .nil (passes_call (takes_of rfl rfl rfl rfl) (fun _ _ _ _ h => h)) (pa_cons (pv 0) pa_nil)))
      (pss_one (ps_ret (pe_lc (own := [("course", 1)]) (g := gName 1) (by rfl) sc_small_courses.nd (pi_list (pe_call (ok_courses_of T) (hr.mono (by decide)) rfl T.g_courses_of T.F_courses_of.kp T.b_courses_of .nil pass0 (pa_cons (pv 0) pa_nil))) (blkOk_by (own := [("course", 1)]) (N := ["counts", "course"]) (sc := defScope s_small_courses) (by decide +kernel)) (fun _ _ _ _ _ => (pg_name (i := 1) sc_small_courses.nd rfl (Or.inl rfl))) (fun _ _ _ _ _ => (pts_one (pt_cmpR (op_eqDK K hr.units) (pv 1) (pe_call (ok_least_alike T) (hr.mono (by decide)) rfl T.g_least_alike T.F_least_alike.kp T.b_least_alike .nil pass0 (pa_cons (pv 1) (pa_cons (pv 0) pa_nil))) (nomark _)))) (fun _ _ _ _ _ => (pv 1)))))), ?_⟩
    refine ⟨x, rfl, p, x, d, rfl, ox.ob hp, fun H1 k1 => ⟨fun e => qe e H1 k1, fun e => ?_⟩⟩
    rcases hd with hd | ⟨cs, rfl, hc⟩
    · rw [hd] at e; cases e
    have wl := well hc
    have lv1 := Lv.same k1 lv
    have ox1 := ox.same k1
    refine S_ret (D_lcL (K := K) (ds := (coursesM cs).map intT') (r := fun d => if decide (rowOf d = leastM cs (rowOf d)) = true then some d else none) (D_fn (D_cons (D_var rfl ox1) D_nil) fun H3 S3 vs R lf ovs qq => ?_) (by rw [List.length_map]; have := wl.c64; omega) fun v d H3 S3 hd lf od => ?_) lv1 fun v H3 k3 o3 => q cs rfl hc v H3 (k1.trans k3) ?_
    · obtain ⟨u, rfl, ou⟩ := ovs.one
      exact ⟨S3, S3, u, cs, rfl, ou, hc, lf.live, fun v H4 k4 o4 => qq v H4 k4 o4⟩
    · obtain ⟨c, hcm, rfl⟩ := List.mem_map.mp hd
      rw [rowOf_int]
      refine turn_test rfl lf.live (T_eqRow (D_var rfl od) (D_fn (D_cons (D_var rfl od) (D_cons (D_var rfl (lf.ob ox1)) D_nil)) fun H5 S5 vs R lf5 ovs qq => ?_)) fun _ => D_var rfl od
      obtain ⟨a, b, rfl, oa, ob⟩ := ovs.two
      exact ⟨S5, a, b, c, cs, rfl, oa, ob, hc, hcm, lf5.live, qq⟩
    · have e : (((coursesM cs).map intT').filterMap fun d => if decide (rowOf d = leastM cs (rowOf d)) = true then some d else none) = (smallM cs).map intT' := by
        unfold smallM
        rw [List.filterMap_map]
        induction coursesM cs with
        | nil => rfl
        | cons c r ih =>
          rw [List.filterMap_cons, List.filter_cons]
          have e : ((fun d => if decide (rowOf d = leastM cs (rowOf d)) = true then some d else none) ∘ intT') c = if decide (c = leastM cs c) = true then some (intT' c) else none := by
            show (if decide (rowOf (intT' c) = leastM cs (rowOf (intT' c))) = true then _ else _) = _
            rw [rowOf_int]
          rw [e]
          by_cases h : decide (c = leastM cs c) = true
          · rw [if_pos h, if_pos h, List.map_cons]
            exact congrArg _ ih
          · rw [if_neg h, if_neg h]
            exact ih
      rw [e] at o3
      exact o3
end

def only (p : Addr) : AS := fun b => b = p
def drwT (E : XK) (js : Nat) (tl : TE) : TE := tCall spDrawA [] E (tCons (tVar js) (tCons tl tNil))
theorem only_live {H : Hp} {p : Addr} {n : Nat} {Av : AS} (h : SrcA H p n Av) : Lv H (only p) := fun a ha => by
  have e : a = p := ha
  rw [e]; exact h.live
theorem but_S {H H' : Hp} {p : Addr} (h : But p H H') : ButS (only p) H H' := fun b o n e => h b o n e
/-- tuple([1 + draw(4) for k in range(2 + draw(2))]) -/
theorem draw_counts {K : PySem.W.Frag} {E1 E2 : XK} {σ : L2.St} {H : Hp} {Q : VK} {p : Addr} {n js ik : Nat} {Av : AS} (hj : σ[js]? = some (some (.ref p))) (hj2 : ∀ x : V, ((wipe σ [ik]).set ik (some x))[js]? = some (some (.ref p)))
    (hw : ∀ x : V, wipe ((wipe σ [ik]).set ik (some x)) [ik] = wipe σ [ik]) (S : SrcA H p n Av) (L : Live H Av) (hn : n < 900000)
    (q : ∀ v cs H', Cnt cs → Oc H' (only p) v (intT' cs) → SrcA H' p (n + 10) Av → But p H H' → Q v H') :
    tTupOfF K (tLc (iRng1 (tCons (tOp (rI0 fun i j => .int (i + j)) (tC (.int 2)) (drwT E1 js (tC (.int 2)))) tNil)) (gName ik) tYes (tOp (rI0 fun i j => .int (i + j)) (tC (.int 1)) (drwT E2 js (tC (.int 4)))) [ik]) σ H Q := by
  refine ⟨_, hj, p, n, 2, Av, rfl, S, L, by omega, by decide, by decide, fun d H1 d0 d1 S1 B1 => ⟨_, _, rfl, rfl, _, rfl, by omega, by omega, fun D hD => ?_⟩⟩
  have L1 := L.but S1 B1
  have nD : D ≠ p := S1.ne hD
  refine lc_range (lo := 0) (n := (2 + d).toNat) (fun i H' => SrcA H' p (n + 1 + i) (And1 Av D) ∧ Live H' (And1 Av D) ∧ But p H1 H' ∧ ∃ cs : List Int, cs.length = i ∧ (∀ c ∈ cs, 1 ≤ c ∧ c ≤ 4) ∧ H' D = some (.lst (cs.map V.int))) ⟨S1.add hD, L1.add hD, Same.but (same_upd hD), [], rfl, fun x h => (nomatch h), upd_same⟩ ?_ ?_
  · rintro i H' hi ⟨S', L', B', cs, hl, hu, eD⟩
    refine ⟨hw _, _, hj2 _, p, _, 4, _, rfl, S', L', by omega, by decide, by decide, fun d2 H3 e0' e1' S3 B3 => ?_⟩
    refine ⟨_, _, rfl, rfl, _, B3 _ _ nD eD, ?_, S3.put (.inr rfl) nD, (L'.but S3 B3).put, ?_, cs ++ [1 + d2], ?_, ?_, ?_⟩
    · rw [List.length_map, hl]
      exact Nat.lt_of_lt_of_le (show i < 1000 by omega) (by decide)
    · exact fun b o nb hb => by
        rw [upd_ne (ne_of_none hb hD)]
        exact (B'.trans B3) _ _ nb hb
    · rw [List.length_append, hl]; rfl
    · intro x hx
      rcases List.mem_append.mp hx with h | h
      · exact hu x h
      · rw [List.mem_singleton.mp h]; omega
    · rw [upd_same, List.map_append]; rfl
  rintro H8 ⟨S8, L8, B8, cs, hcl, hcs, eD⟩
  refine ⟨D, _, rfl, SqL.of eD, fun ct H9 hct k9 tct g9 => ?_⟩
  have S8' : SrcA H8 p (n + 10) Av := (S8.sub fun b hb => .inl hb).le (by omega)
  refine q _ cs H9 ⟨by omega, by omega, hcs⟩ (.tup tct (S8'.ne hct) (ocs_ints cs)) (S8'.same k9) ((B1.trans B8).trans (Same.but k9))
theorem mem_coursesM_step {cs o : List Int} {c d : Int} {j : Nat} (h : o ∈ coursesM (cs.take j)) (hc : cs[j]? = some c) (d0 : 0 ≤ d) (d1 : d < c) : o ++ [d] ∈ coursesM (cs.take (j + 1)) := by
  rw [List.take_add_one, hc]
  show _ ∈ coursesM (cs.take j ++ [c])
  rw [mem_coursesM_snoc, List.mem_flatMap]
  refine ⟨o, h, List.mem_map.mpr ⟨d.toNat, List.mem_range.mpr (by omega), ?_⟩⟩
  unfold snocR
  rw [Int.toNat_of_nonneg d0]
/-- tuple([draw(count) for count in counts]) -/
theorem draw_course {K : PySem.W.Frag} {E2 : XK} {σ : L2.St} {H : Hp} {Q : VK} {p : Addr} {n js ic ik : Nat} {Av : AS} {v : V} {cs : List Int} (hc : σ[ic]? = some (some v)) (ov : Oc H (only p) v (intT' cs)) (hcs : Cnt cs) (hj2 : ∀ x : V, ((wipe σ [ik]).set ik (some x))[js]? = some (some (.ref p)))
    (hk2 : ∀ x : V, ((wipe σ [ik]).set ik (some x))[ik]? = some (some x)) (hw : ∀ x : V, wipe ((wipe σ [ik]).set ik (some x)) [ik] = wipe σ [ik]) (S : SrcA H p n Av) (L : Live H Av) (hn : n < 900000)
    (q : ∀ u o H', o ∈ coursesM cs → Oc H' (only p) u (intT' o) → SrcA H' p (n + 10) Av → But p H H' → Q u H') :
    tTupOfF K (tLc (iTup K (tVar ic)) (gName ik) tYes (drwT E2 js (tVar ik)) [ik]) σ H Q := by
  obtain ⟨a, xs, rfl, ea, na, oa⟩ := ov.tup_inv
  have e := oa.ints
  subst e
  refine ⟨_, hc, a, rfl, ⟨_, ea.sq⟩, fun D hD => ?_⟩
  have nD : D ≠ p := S.ne hD
  refine lc_tup (K := K) (a := a) (xs := cs.map V.int) (fun j H' => SrcA H' p (n + j) (And1 Av D) ∧ Live H' (And1 Av D) ∧ But p H H' ∧ ∃ o : List Int, o.length = j ∧ o ∈ coursesM (cs.take j) ∧ H' D = some (.lst (o.map V.int)))
    ⟨S.add hD, L.add hD, Same.but (same_upd hD), [], rfl, by rw [List.take_zero]; decide, upd_same⟩ (fun j H' _ h => (ea.butS (but_S h.2.2.1) na).sq) ?_ ?_
  · rintro j x H' hx ⟨S', L', B', o, hl, hu, eD⟩
    rw [List.getElem?_map] at hx
    obtain ⟨c, hcg, rfl⟩ := Option.map_eq_some_iff.mp hx
    have hc4 := hcs.all c (List.mem_of_getElem? hcg)
    have hj3 : j < 3 := by
      obtain ⟨z, _⟩ := List.getElem?_eq_some_iff.mp hcg
      have := hcs.l2; omega
    refine ⟨hw _, _, hj2 _, _, hk2 _, p, _, c, _, rfl, S', L', by omega, by omega, by omega, fun d2 H3 e0' e1' S3 B3 => ?_⟩
    refine ⟨_, B3 _ _ nD eD, ?_, S3.put (.inr rfl) nD, (L'.but S3 B3).put, ?_, o ++ [d2], ?_, mem_coursesM_step hu hcg e0' e1', ?_⟩
    · rw [List.length_map, hl]
      exact Nat.lt_of_lt_of_le (show j < 1000 by omega) (by decide)
    · exact fun b o nb hb => by
        rw [upd_ne (ne_of_none hb hD)]
        exact (B'.trans B3) _ _ nb hb
    · rw [List.length_append, hl]; rfl
    · rw [upd_same, List.map_append]; rfl
  rintro H8 ⟨S8, L8, B8, o, hol, ho, eD⟩
  rw [List.length_map] at S8 hol ho
  rw [List.take_length] at ho
  have hl3 := hcs.l2
  refine ⟨D, _, rfl, SqL.of eD, fun ct H9 hct k9 tct g9 => ?_⟩
  have S8' : SrcA H8 p (n + 10) Av := (S8.sub fun b hb => .inl hb).le (by omega)
  exact q _ o H9 ho (.tup tct (S8'.ne hct) (ocs_ints o)) (S8'.same k9) (B8.trans (Same.but k9))

section
variable {P : Program} {w : World} {K : PySem.W.Frag} {mg : Str → Option Value} {base : Heap}
theorem ok_law_integer (T : Txt K mg) : FnOk P w K mg base CX0 1 T.a_law_integer T.d_law_integer ["_law_found"] (spIsInt K) := by
  refine T.F_law_integer.ok sc_law_integer (fun vs H Q E h => ?_) (fun cdv A outer s H vs Q E hr h => ?_)
  · obtain ⟨x, n, rfl, _⟩ := h
    rfl
  · obtain ⟨x, n, rfl, hx, q⟩ := h
    refine ⟨_, (pss_one (ps_ret (pe_and (pe_callB call_isi (by rfl) T.z_isinstance (by decide +kernel) (pa_cons (pv 0) (pa_cons (pe_bltn (v := .ty "int") (by rfl) T.z_int (by decide +kernel) rfl) pa_nil))) (pe_one (pe_not (pe_callB call_isi (by rfl) T.z_isinstance (by decide +kernel) (pa_cons (pv 0) (pa_cons (pe_bltn (v := .ty "bool") (by rfl) T.z_bool (by decide +kernel) rfl) pa_nil)))))))), ?_⟩
    refine ⟨x, rfl, x, _, _, _, _, rfl, .ty _, hx.ty, hx.int?, _, rfl, ?_⟩
    cases e : isI x with
    | true =>
      rw [e, Bool.true_and] at q
      exact iteT ⟨_, rfl, _, _, _, _, _, rfl, .ty _, hx.ty, hx.bool?, _, rfl, q⟩
    | false =>
      rw [e, Bool.false_and] at q
      exact iteF q
end

section
variable {P : Program} {w : World} {K : PySem.W.Frag} {mg : Str → Option Value} {base : Heap}
theorem ok_check_kind (T : Txt K mg) : FnOk P w K mg base (L2.CX P w) 2 T.a_check_kind T.d_check_kind ["kind"] (spChk K T.exc kindV "BadKind") := by
  refine T.F_check_kind.okX sc_check_kind (fun vs H Q E h => ?_) (fun cdv A outer s H vs Q E hr h => ?_)
  · obtain ⟨x, n, rfl, _⟩ := h
    rfl
  · obtain ⟨x, n, rfl, hx, q⟩ := h
    refine ⟨_, (pss_one (ps_if (pt_not (pt_val (pe_call (ok_is_word T) (hr.mono (by decide)) rfl T.g_is_word T.F_is_word.kp T.b_is_word .nil pass0 (pa_cons (pv 0) (pa_cons (pe_glob rfl T.g_KINDS T.r_KINDS) pa_nil)))))
      (pss_one (ps_raise rfl (takes_of rfl rfl rfl rfl) (pmk_own PySem.F.excBase_ValueError T.x_BadKind T.g_BadKind T.k_BadKind (raises_own T.p_BadKind T.t_BadKind) rfl)))
      pss_nil)), ?_⟩
    refine ⟨x, rfl, x, T.c_KINDS, ["rest", "ranges"], n, rfl, T.q_KINDS H, hx, _, rfl, ?_⟩
    cases e : kindV x with
    | false =>
      rw [e] at q
      exact if_pos (show (!kindV x) = true by rw [e]; rfl) ▸ q
    | true =>
      rw [e] at q
      exact if_neg (show ¬ (!kindV x) = true by rw [e]; decide) ▸ q
theorem ok_check_size (T : Txt K mg) : FnOk P w K mg base (L2.CX P w) 2 T.a_check_size T.d_check_size ["size"] (spChk K T.exc (fun x => wholeV x 1 (10 ^ 40)) "BadSize") := by
  refine T.F_check_size.okX sc_check_size (fun vs H Q E h => ?_) (fun cdv A outer s H vs Q E hr h => ?_)
  · obtain ⟨x, n, rfl, _⟩ := h
    rfl
  · obtain ⟨x, n, rfl, hx, q⟩ := h
    refine ⟨_, (pss_one (ps_if (pt_not (pt_val (pe_call (ok_is_whole T) (hr.mono (by decide)) rfl T.g_is_whole T.F_is_whole.kp T.b_is_whole .nil pass0 (pa_cons (pv 0) (pa_cons pe_int (pa_cons (pe_glob rfl T.g_GREATEST_SIZE T.r_GREATEST_SIZE) pa_nil))))))
      (pss_one (ps_raise rfl (takes_of rfl rfl rfl rfl) (pmk_own PySem.F.excBase_ValueError T.x_BadSize T.g_BadSize T.k_BadSize (raises_own T.p_BadSize T.t_BadSize) rfl)))
      pss_nil)), ?_⟩
    refine ⟨x, rfl, x, 1, 10 ^ 40, n, rfl, hx, _, rfl, ?_⟩
    cases e : wholeV x 1 (10 ^ 40) with
    | false =>
      simp only [e] at q
      exact q
    | true =>
      simp only [e] at q
      exact q
theorem ok_lane_at (T : Txt K mg) : FnOk P w K mg base CX0 1 T.a_lane_at T.d_lane_at ["kind", "count", "mark", "size"] spLaneAt := by
  refine T.F_lane_at.ok sc_lane_at (fun vs H Q E h => ?_) (fun cdv A outer s H vs Q E hr h => ?_)
  · obtain ⟨k, c, m, s, rfl, _⟩ := h
    rfl
  · obtain ⟨k, c, m, s, rfl, c1, c2, m0, ms, s1, q⟩ := h
    refine ⟨_, (pss_one (ps_ret (pe_ifExp (pt_cmpR op_eq (pv 0) pe_str (nomark _)) (pe_op op_mod (pv 2) (pv 1)) (pe_op op_fdivW (pe_op Lc.op_mulX (pv 2) (pv 1)) (pv 3))))), ?_⟩
    refine ⟨_, rfl, rfl, _, rfl, ite2 (fun e => ?_) (fun e => ?_)⟩
    · have e2 : V.str k = .str "rest" := of_decide_eq_true e
      refine ⟨_, rfl, _, rfl, _, _, rfl, rfl, (by show 0 < c; omega), ?_⟩
      unfold laneAt at q
      rw [if_pos e2] at q
      exact q
    · have e2 : ¬ V.str k = .str "rest" := fun z => e (decide_eq_true z)
      have fm : Few m := few_le (b := 10 ^ 40) m0 (by omega) (by decide)
      have fc : Few c := few_le (b := 10 ^ 20) (by omega) c2 (by decide)
      have hs : s.natAbs < 2 ^ 240 := Nat.lt_of_le_of_lt (by omega : s.natAbs ≤ 10 ^ 40) (by decide)
      refine ⟨_, rfl, _, rfl, _, _, rfl, rfl, mulX fm fc, _, rfl, _, _, rfl, rfl, divX (by omega) hs, ?_⟩
      unfold laneAt at q
      rw [if_neg e2] at q
      exact q
theorem ok_lane_start (T : Txt K mg) : FnOk P w K mg base CX0 1 T.a_lane_start T.d_lane_start ["lane", "count", "size"] spLstart := by
  refine T.F_lane_start.ok sc_lane_start (fun vs H Q E h => ?_) (fun cdv A outer s₀ H vs Q E hr h => ?_)
  · obtain ⟨l, c, s, rfl, _⟩ := h
    rfl
  · obtain ⟨l, c, s, rfl, l0, l1, c1, c2, s1, s2, q⟩ := h
    refine ⟨_, (pss_one (ps_ret (pe_op op_fdivW (pe_op op_sub (pe_op op_add (pe_op Lc.op_mulX (pv 0) (pv 2)) (pv 1)) pe_int) (pv 1)))), ?_⟩
    have fl : Few l := few_le (b := 2000) l0 l1 (by decide)
    have fs : Few s := few_le (b := 10 ^ 40) (by omega) s2 (by decide)
    exact ⟨_, rfl, _, rfl, _, _, rfl, rfl, mulX fl fs, _, rfl, _, _, rfl, rfl, _, _, rfl, rfl, _, rfl, _, _, rfl, rfl, divX (by omega) (Nat.lt_of_le_of_lt (by omega : c.natAbs ≤ 1000) (by decide)), q⟩
end

/-! ### shares: what they are -/
def courseM (k : Str) (cs : List Int) (m s : Int) : List Int := cs.map fun c => laneAt (.str k) c m s
def periodM (cs : List Int) : Int := cs.foldl (fun p c => lcmI p c) 1
def restRows (cs : List Int) (s : Int) : List (List Int × Int) := (List.range (min (periodM cs) s).toNat).map fun (r : Nat) => (courseM "rest" cs (r : Int) s, (s - 1 - (r : Int)) / periodM cs + 1)
def startsM (cs : List Int) (s : Int) : List Int := sortU (cs.flatMap fun c => (List.range (c.toNat + 1)).map fun (l : Nat) => lstart (l : Int) c s)
def rangeRows (cs : List Int) (s : Int) : List (List Int × Int) := ((startsM cs s).zip ((startsM cs s).drop 1)).map fun p => (courseM "ranges" cs p.1 s, p.2 - p.1)
def sharesM (k : Str) (cs : List Int) (s : Int) : List (List Int × Int) := sortP (if V.str k = .str "rest" then restRows cs s else rangeRows cs s)
def pairsT (rows : List (List Int × Int)) : Dt := .lst (rows.map encD)
def spCourseOf : Sp := fun vs H Q _ => ∃ (S : AS) (k : Str) (x : V) (cs : List Int) (m s : Int), vs = [.str k, x, .int m, .int s] ∧ Oc H S x (intT' cs) ∧ Cnt cs ∧ 0 ≤ m ∧ m < s ∧ s ≤ 10 ^ 40 ∧ Lv H S ∧ ∀ v H', Same H H' → Oc H' S v (intT' (courseM k cs m s)) → Q v H'
def spPeriod : Sp := fun vs H Q _ => ∃ (S : AS) (x : V) (cs : List Int), vs = [x] ∧ Oc H S x (intT' cs) ∧ Cnt cs ∧ ∀ H', Same H H' → Q (.int (periodM cs)) H'
def spSharesBy (f : List Int → Int → List (List Int × Int)) : Sp := fun vs H Q _ => ∃ (S : AS) (x : V) (cs : List Int) (s : Int), vs = [x, .int s] ∧ Oc H S x (intT' cs) ∧ Cnt cs ∧ 1 ≤ s ∧ s ≤ 10 ^ 40 ∧ Lv H S ∧ ∀ v H', Same H H' → Oc H' S v (pairsT (f cs s)) → Q v H'
def sharesErr (k : V) (d : Dt) (s : V) : Option String :=
  if kindV k = false then some "BadKind" else if countsD d = false then some "BadCounts" else if wholeV s 1 (10 ^ 40) = false then some "BadSize" else none
def spShares (K : PySem.W.Frag) (exc : String → Addr) : Sp := fun vs H Q E => ∃ (S : AS) (p : Addr) (k x s : V) (d : Dt) (tk ts : String), vs = [k, x, s] ∧ Arg K H k tk ∧ Oc H S x d ∧ (∀ H', Same H H' → Arg K H' s ts) ∧ S p ∧ Lv H S ∧
  (∀ n, sharesErr k d s = some n → ∀ H', Same H H' → E (.ref (exc n)) none H') ∧ (countsD d = false ∨ ∃ cs, d = intT' cs ∧ Cnt cs) ∧
  (∀ ks cs si, k = .str ks → kindV k = true → d = intT' cs → Cnt cs → s = .int si → 1 ≤ si → si ≤ 10 ^ 40 → ∀ v H', Same H H' → Oc H' S v (pairsT (sharesM ks cs si)) → Q v H')
def perOk (cs : List Int) : Bool := decide (1 ≤ periodM cs) && decide (periodM cs ≤ 12) && (List.range cs.length).all fun i => decide (1 ≤ periodM (cs.take i)) && decide (periodM (cs.take i) ≤ 12)
theorem per_all : allCnt.all perOk = true := by decide +kernel
theorem per {cs : List Int} (h : Cnt cs) : 1 ≤ periodM cs ∧ periodM cs ≤ 12 ∧ ∀ i, i < cs.length → 1 ≤ periodM (cs.take i) ∧ periodM (cs.take i) ≤ 12 := by
  have w := cnt_all per_all h
  unfold perOk at w
  simp only [Bool.and_eq_true, decide_eq_true_eq, List.all_eq_true, List.mem_range] at w
  exact ⟨w.1.1, w.1.2, w.2⟩
theorem lstart_ge {l c s : Int} (l0 : 0 ≤ l) (c1 : 1 ≤ c) (s0 : 0 ≤ s) : 0 ≤ lstart l c s := by
  unfold lstart
  exact Int.ediv_nonneg (by have := Int.mul_nonneg l0 s0; omega) (by omega)
theorem lstart_le {l c s : Int} (l1 : l ≤ c) (c1 : 1 ≤ c) (s0 : 0 ≤ s) : lstart l c s ≤ s := by
  unfold lstart
  have h : l * s ≤ c * s := Int.mul_le_mul_of_nonneg_right l1 s0
  have h2 : (l * s + c - 1) / c ≤ (c * s + (c - 1)) / c := Int.ediv_le_ediv (by omega) (by omega)
  have h3 : (c * s + (c - 1)) / c = s := by
    rw [Int.add_comm, Int.add_mul_ediv_left _ _ (by omega), Int.ediv_eq_zero_of_lt (by omega) (by omega), Int.zero_add]
  omega
theorem starts_bd {cs : List Int} {s k : Int} (h : Cnt cs) (s0 : 0 ≤ s) (hk : k ∈ startsM cs s) : 0 ≤ k ∧ k ≤ s := by
  unfold startsM at hk
  rw [mem_sortU, List.mem_flatMap] at hk
  obtain ⟨c, hc, hk⟩ := hk
  obtain ⟨l, hl, rfl⟩ := List.mem_map.mp hk
  obtain ⟨c1, c4⟩ := h.all c hc
  have := List.mem_range.mp hl
  exact ⟨lstart_ge (by omega) c1 s0, lstart_le (by omega) c1 s0⟩
theorem zip_drop_lt : ∀ {l : List Int}, l.Pairwise (· < ·) → ∀ p ∈ l.zip (l.drop 1), p.1 < p.2 ∧ p.1 ∈ l ∧ p.2 ∈ l
  | [], _, p, hp => by simp at hp
  | [x], _, p, hp => by simp at hp
  | x :: y :: r, h, p, hp => by
    obtain ⟨h1, h2⟩ := List.pairwise_cons.mp h
    have hp2 : p ∈ (x, y) :: ((y :: r).zip ((y :: r).drop 1)) := hp
    rcases List.mem_cons.mp hp2 with rfl | hp2
    · exact ⟨h1 y List.mem_cons_self, List.mem_cons_self, List.mem_cons_of_mem _ List.mem_cons_self⟩
    · obtain ⟨a, b, c⟩ := zip_drop_lt h2 p hp2
      exact ⟨a, List.mem_cons_of_mem _ b, List.mem_cons_of_mem _ c⟩
theorem map_drop1 (l : List Int) : (l.map Dt.int).drop 1 = (l.drop 1).map Dt.int := by rw [List.map_drop]
section
variable {P : Program} {w : World} {K : PySem.W.Frag} {mg : Str → Option Value} {base : Heap}
theorem ok_course_of (T : Txt K mg) : FnOk P w K mg base CX0 2 T.a_course_of T.d_course_of ["kind", "counts", "mark", "size"] spCourseOf := by
  refine T.F_course_of.ok sc_course_of (fun vs H Q E h => ?_) (fun cdv A outer s₀ H vs Q E hr h => ?_)
  · obtain ⟨S, k, x, cs, m, s, rfl, _⟩ := h
    rfl
  · obtain ⟨S, k, x, cs, m, s, rfl, ox, hc, m0, ms, s40, lv, q⟩ := h
    refine ⟨_, (pss_one (ps_ret (pe_tupleOfF (by rfl) T.z_tuple (pe_lc (own := [("count", 4)]) (g := gName 4) (tt := tYes) (by rfl) sc_course_of.nd (pi_tup (pv 1)) (blkOk_by (own := [("count", 4)]) (N := ["kind", "counts", "mark", "size", "count"]) (sc := defScope s_course_of) (by decide +kernel)) (fun _ _ _ _ _ => (pg_name (i := 4) sc_course_of.nd rfl (Or.inl rfl))) (fun _ _ _ _ _ => pts_nil) (fun _ _ _ _ _ => (pe_call (ok_lane_at T) (hr.mono (by decide)) rfl T.g_lane_at T.F_lane_at.kp T.b_lane_at .nil pass0 (pa_cons (pv 0) (pa_cons (pv 4) (pa_cons (pv 2) (pa_cons (pv 3) pa_nil)))))))))), ?_⟩
    refine S_ret (d := intT' (courseM k cs m s)) (D_eq (D_tupleOf (D_lcT (K := K) (ds := cs.map Dt.int) (z := true) (r := fun d => some (.int (laneAt (.str k) (Lc.intD d) m s))) (D_var rfl ox) (by rw [List.length_map]; have := hc.l2; omega) fun v d H1 S1 hd lf od => ?_)) ?_) lv q
    · obtain ⟨c, hcm, rfl⟩ := List.mem_map.mp hd
      obtain ⟨c1, c4⟩ := hc.all c hcm
      refine turn_map rfl lf.live (D_fn (ds := [.str k, .int c, .int m, .int s]) (D_cons (D_var rfl (.str k)) (D_cons (D_var rfl od) (D_cons (D_var rfl (.int m)) (D_cons (D_var rfl (.int s)) D_nil)))) fun H2 S2 vs R lf2 ovs qq => ?_)
      cases ovs with
      | cons o1 t =>
        obtain ⟨a, b, e, rfl, o2, o3, o4⟩ := t.three
        rw [o1.str_inv, o2.int_inv, o3.int_inv, o4.int_inv]
        exact ⟨k, c, m, s, rfl, c1, by omega, m0, ms, s40, qq _ _ (fun _ _ z => z) (.int _)⟩
    · show Dt.tup true _ = Dt.tup true _
      congr 1
      unfold courseM
      rw [List.filterMap_map, List.map_map]
      exact List.filterMap_eq_map ▸ rfl
theorem ok_period_of (T : Txt K mg) : FnOk P w K mg base CX0 1 T.a_period_of T.d_period_of ["counts"] spPeriod := by
  refine T.F_period_of.ok sc_period_of (fun vs H Q E h => ?_) (fun cdv A outer s₀ H vs Q E hr h => ?_)
  · obtain ⟨S, x, cs, rfl, _⟩ := h
    rfl
  · obtain ⟨S, x, cs, rfl, ox, hc, q⟩ := h
    obtain ⟨_, _, pr⟩ := per hc
    refine ⟨_, (pss_cons (ps_set (i := 1) sc_period_of.nd rfl (Or.inl rfl) pe_int)
      (pss_cons (ps_for PassesOwn.never rfl (pi_tup (pv 0)) (pg_name (i := 2) sc_period_of.nd rfl (Or.inl rfl))
      (pss_one (ps_set (i := 1) sc_period_of.nd rfl (Or.inl rfl) (pe_callBfun Lc.cr_lcm rfl T.g_lcm (pa_cons (pv 1) (pa_cons (pv 2) pa_nil))))))
      (pss_one (ps_ret (pv 1))))), ?_⟩
    obtain ⟨a, xs, rfl, ea, na, oa⟩ := ox.tup_inv
    have ei := oa.ints
    subst ei
    refine ⟨_, rfl, a, rfl, ⟨_, ea.sq⟩, for_tup (xs := cs.map V.int) (fun i σ' H' => ∃ c2 : Option V, σ' = [some (.ref a), some (.int (periodM (cs.take i))), c2] ∧ Same H H') ⟨none, rfl, fun _ _ z => z⟩ (fun i σ' H' _ h => by
      obtain ⟨_, _, k⟩ := h
      exact (ea.same k).sq) ?_ ?_⟩
    · rintro i y σ' H' hy ⟨c2, rfl, k⟩
      rw [List.getElem?_map] at hy
      obtain ⟨c, hcg, rfl⟩ := Option.map_eq_some_iff.mp hy
      obtain ⟨c1, c4⟩ := hc.all c (List.mem_of_getElem? hcg)
      have hi : i < cs.length := (List.getElem?_eq_some_iff.mp hcg).1
      obtain ⟨p1, p12⟩ := pr i hi
      refine ⟨_, rfl, _, rfl, (periodM (cs.take i)).toNat, c.toNat, ?_, Nat.lt_of_le_of_lt (by omega : (periodM (cs.take i)).toNat ≤ 12) (by decide), Nat.lt_of_le_of_lt (by omega : c.toNat ≤ 4) (by decide), by omega, ?_⟩
      · rw [Int.toNat_of_nonneg (by omega), Int.toNat_of_nonneg (by omega)]
      · refine ⟨some (.int c), ?_, k⟩
        rw [List.take_add_one, hcg]
        show _ = [some (V.ref a), some (V.int (periodM (cs.take i ++ [c]))), some (V.int c)]
        unfold periodM
        rw [List.foldl_append]; rfl
    · rintro σ' H' ⟨c2, rfl, k⟩
      rw [List.length_map, List.take_length]
      exact ⟨_, rfl, q H' k⟩
theorem ok_shares_by_rest (T : Txt K mg) : FnOk P w K mg base CX0 3 T.a_shares_by_rest T.d_shares_by_rest ["counts", "size"] (spSharesBy restRows) := by
  refine T.F_shares_by_rest.ok sc_shares_by_rest (fun vs H Q E h => ?_) (fun cdv A outer s₀ H vs Q E hr h => ?_)
  · obtain ⟨S, x, cs, s, rfl, _⟩ := h
    rfl
  · obtain ⟨S, x, cs, s, rfl, ox, hc, s1, s40, lv, q⟩ := h
    obtain ⟨p1, p12, _⟩ := per hc
    refine ⟨_, (pss_cons (ps_set (i := 2) sc_shares_by_rest.nd rfl (Or.inr rfl) (pe_call (ok_period_of T) (hr.mono (by decide)) rfl T.g_period_of T.F_period_of.kp T.b_period_of .nil pass0 (pa_cons (pv 0) pa_nil)))
      (pss_one (ps_ret (pe_lc (own := [("rest", 3)]) (g := gName 3) (tt := tYes) (by rfl) sc_shares_by_rest.nd (pi_range1 rfl T.z_range (pa_cons (pe_callB (call_min2 rfl) (by rfl) T.z_min (by decide +kernel) (pa_cons (pv 2) (pa_cons (pv 1) pa_nil))) pa_nil)) (blkOk_by (own := [("rest", 3)]) (N := ["counts", "size", "period", "rest"]) (sc := defScope s_shares_by_rest) (by decide +kernel)) (fun _ _ _ _ _ => (pg_name (i := 3) sc_shares_by_rest.nd rfl (Or.inl rfl))) (fun _ _ _ _ _ => pts_nil) (fun _ _ _ _ _ => (pe_tupF (pa_cons (pe_call (ok_course_of T) (hr.mono (by decide)) rfl T.g_course_of T.F_course_of.kp T.b_course_of .nil pass0 (pa_cons pe_str (pa_cons (pv 0) (pa_cons (pv 3) (pa_cons (pv 1) pa_nil))))) (pa_cons (pe_op op_add (pe_op op_fdivW (pe_op op_sub (pe_op op_sub (pv 1) pe_int) (pv 3)) (pv 2)) pe_int) pa_nil)))))))), ?_⟩
    refine ⟨_, rfl, S, x, cs, rfl, ox, hc, fun H1 k1 => ?_⟩
    have lv1 := Lv.same k1 lv
    have emin : (if s < periodM cs then s else periodM cs) = min (periodM cs) s := by split <;> omega
    obtain ⟨n, hn⟩ : ∃ n : Nat, min (periodM cs) s = n := ⟨(min (periodM cs) s).toNat, by omega⟩
    have hnt : (min (periodM cs) s).toNat = n := by rw [hn]; exact Int.toNat_natCast n
    have dn : DE (tCB (fun xs H Q => ∃ i j, xs = [V.int i, V.int j] ∧ Q (.int (if j < i then j else i)) H) (tCons (tVar 2) (tCons (tVar 1) tNil))) [some x, some (.int s), some (.int (periodM cs)), none] H1 S (.int (n : Nat)) := fun H2 S2 R y qq => ⟨_, rfl, _, rfl, _, _, rfl, by rw [emin, hn]; exact qq _ _ (fun _ _ z => z) (.int _)⟩
    refine S_ret (d := pairsT (restRows cs s)) (D_eq (D_lcR (r := fun d => some (encD (courseM "rest" cs (Lc.intD d) s, (s - 1 - Lc.intD d) / periodM cs + 1))) dn (by omega) fun r H2 S2 hr2 lf => ?_) ?_) lv1 fun v H2 k2 o2 => q v H2 (k1.trans k2) o2
    · refine turn_map rfl lf.live (D_tup (ds := [intT' (courseM "rest" cs (r : Int) s), .int ((s - 1 - (r : Int)) / periodM cs + 1)]) (D_cons (D_fn (ds := [.str "rest", intT' cs, .int (r : Nat), .int s]) (D_cons (D_str _) (D_cons (D_var rfl (lf.ob (ox.same k1))) (D_cons (D_var rfl (.int _)) (D_cons (D_var rfl (.int s)) D_nil)))) fun H3 S3 vs R lf3 ovs qq => ?_) (D_cons (fun H3 S3 R lf3 qq => ?_) D_nil)) (by show 2 ≤ 1000; decide))
      · cases ovs with
        | cons o1 t =>
          obtain ⟨a, b, e, rfl, o2, o3, o4⟩ := t.three
          rw [o1.str_inv, o3.int_inv, o4.int_inv]
          exact ⟨S3, "rest", a, cs, (r : Int), s, rfl, o2, hc, by omega, by omega, s40, lf3.live, qq⟩
      · exact ⟨_, rfl, _, _, rfl, rfl, _, rfl, _, _, rfl, rfl, _, rfl, _, _, rfl, rfl, divX (by omega) (Nat.lt_of_le_of_lt (by omega : (periodM cs).natAbs ≤ 12) (by decide)), _, _, rfl, rfl, qq _ _ (fun _ _ z => z) (.int _)⟩
    · show Dt.lst _ = Dt.lst _
      congr 1
      unfold restRows upto
      rw [hnt, List.filterMap_map, List.map_map]
      exact List.filterMap_eq_map ▸ rfl
theorem ok_shares_by_ranges (T : Txt K mg) : FnOk P w K mg base CX0 3 T.a_shares_by_ranges T.d_shares_by_ranges ["counts", "size"] (spSharesBy rangeRows) := by
  refine T.F_shares_by_ranges.ok sc_shares_by_ranges (fun vs H Q E h => ?_) (fun cdv A outer s₀ H vs Q E hr h => ?_)
  · obtain ⟨S, x, cs, s, rfl, _⟩ := h
    rfl
  · obtain ⟨S, x, cs, s, rfl, ox, hc, s1, s40, lv, q⟩ := h
    refine ⟨_, (pss_cons (ps_set (i := 2) sc_shares_by_ranges.nd rfl (Or.inl rfl) (pe_callB (cr_sortedSet (by rfl)) (by rfl) T.z_sorted (by decide +kernel) (pa_cons (LcC.pe_sc2 (own := [("count", 5), ("lane", 6)]) (vs1 := [6]) (g := gName 5) (g1 := gName 6) (tt := tYes) (tt1 := tYes) (by rfl) sc_shares_by_ranges.nd (pi_tup (pv 0)) (blkOk_by (own := [("count", 5), ("lane", 6)]) (N := ["counts", "size", "starts", "start", "end", "count", "lane"]) (sc := defScope s_shares_by_ranges) (by decide +kernel)) (by decide) (fun _ _ _ _ _ => (pg_name (i := 5) sc_shares_by_ranges.nd rfl (Or.inl rfl))) (fun _ _ _ _ _ => pts_nil) (fun _ _ _ _ _ => (pi_range1 rfl T.z_range (pa_cons (pe_op op_add (pv 5) pe_int) pa_nil))) (fun _ _ _ _ _ => (pg_name (i := 6) sc_shares_by_ranges.nd rfl (Or.inl rfl))) (fun _ _ _ _ _ => pts_nil) (fun _ _ _ _ _ => (pe_call (ok_lane_start T) (hr.mono (by decide)) rfl T.g_lane_start T.F_lane_start.kp T.b_lane_start .nil pass0 (pa_cons (pv 6) (pa_cons (pv 5) (pa_cons (pv 1) pa_nil)))))) pa_nil)))
      (pss_one (ps_ret (pe_lc (own := [("start", 3), ("end", 4)]) (g := gTup K 2 (gCons (gName 3) (gCons (gName 4) (gNil)))) (tt := tYes) (by rfl) sc_shares_by_ranges.nd (pi_zipA (by rfl) T.z_zip (pa_cons (pv 2) (pa_cons (pe_slice sl_list (pv 2) (po_some pe_int) po_none) pa_nil))) (blkOk_by (own := [("start", 3), ("end", 4)]) (N := ["counts", "size", "starts", "start", "end", "count", "lane"]) (sc := defScope s_shares_by_ranges) (by decide +kernel)) (fun _ _ _ _ _ => (pg_tup rfl (pgs_cons (pg_name (i := 3) sc_shares_by_ranges.nd rfl (Or.inl rfl)) (pgs_cons (pg_name (i := 4) sc_shares_by_ranges.nd rfl (Or.inl rfl)) pgs_nil)))) (fun _ _ _ _ _ => pts_nil) (fun _ _ _ _ _ => (pe_tupF (pa_cons (pe_call (ok_course_of T) (hr.mono (by decide)) rfl T.g_course_of T.F_course_of.kp T.b_course_of .nil pass0 (pa_cons pe_str (pa_cons (pv 0) (pa_cons (pv 3) (pa_cons (pv 1) pa_nil))))) (pa_cons (pe_op op_sub (pv 4) (pv 3)) pa_nil)))))))), ?_⟩
    have d1 : DE (tCB (rSortedSet w) (tCons (LcC.tSc2 w (iTup K (tVar 0)) (gName 5) tYes (iRng1 (tCons (tOp (rI0 fun i j => .int (i + j)) (tVar 5) (tC (.int 1))) tNil)) (gName 6) tYes (tCall spLstart [] (fun _ _ _ => False) (tCons (tVar 6) (tCons (tVar 5) (tCons (tVar 1) tNil)))) [5, 6] [6]) tNil))
        [some x, some (.int s), none, none, none, none, none] H S (.lst ((startsM cs s).map Dt.int)) := by
      refine D_sortSc2 (cs := cs) (n := fun c => c.toNat + 1) (f := fun c l => lstart (l : Int) c s) rfl ox hc.l2 (fun c hcm => by have := hc.all c hcm; omega) (fun _ => rfl) (fun _ _ => rfl) (fun c H1 S1 hcm lf => ?_) fun c j H1 S1 hcm hj lf => ?_
      · have c1 := (hc.all c hcm).1
        exact D_eq (D_add (D_var rfl (.int c)) (D_int 1)) (by congr 1; omega)
      · obtain ⟨c1, c4⟩ := hc.all c hcm
        refine D_fn (ds := [.int (j : Nat), .int c, .int s]) (D_cons (D_var rfl (.int _)) (D_cons (D_var rfl (.int _)) (D_cons (D_var rfl (.int s)) D_nil))) fun H2 S2 vs R lf2 ovs qq => ?_
        obtain ⟨a, b, e, rfl, o2, o3, o4⟩ := ovs.three
        rw [o2.int_inv, o3.int_inv, o4.int_inv]
        exact ⟨j, c, s, rfl, by omega, by omega, c1, by omega, s1, s40, qq _ _ (fun _ _ z => z) (.int _)⟩
    refine S_set d1 lv fun v H1 k1 o1 => ?_
    have lv1 := Lv.same k1 lv
    have st := pw_sortU (cs.flatMap fun c => (List.range (c.toNat + 1)).map fun (l : Nat) => lstart (l : Int) c s)
    have d2 := D_lcZ (K := K) (i1 := 3) (i2 := 4) (ta := tVar 2) (tb := tSl (rSlL K) (tVar 2) (tPart (tC (.int 1))) tNoPart) (te := tTupF (tCons (tCall spCourseOf [] (fun _ _ _ => False) (tCons (tC (.str "ranges")) (tCons (tVar 0) (tCons (tVar 3) (tCons (tVar 1) tNil))))) (tCons (tOp (rI0 fun i j => .int (i - j)) (tVar 4) (tVar 3)) tNil)))
      (σ := [some x, some (.int s), some v, none, none, none, none]) (f := fun p => encD (courseM "ranges" cs (Lc.intD p.1) s, Lc.intD p.2 - Lc.intD p.1)) (D_var rfl o1) (D_slice1 (D_var rfl o1)) (by
        rw [List.length_map]
        have := sortU_len (cs.flatMap fun c => (List.range (c.toNat + 1)).map fun (l : Nat) => lstart (l : Int) c s)
        have h5 : (cs.flatMap fun c => (List.range (c.toNat + 1)).map fun (l : Nat) => lstart (l : Int) c s).length ≤ cs.length * 5 := by
          refine fl_len2 _ _ 5 fun c hcm => ?_
          rw [List.length_map, List.length_range]
          have := hc.all c hcm; omega
        have := hc.l2
        show (sortU _).length ≤ _
        omega) (fun _ _ => rfl) fun va vb d e H2 S2 hde lf od oe => by
        rw [map_drop1, List.zip_map] at hde
        obtain ⟨p, hp, epq⟩ := List.mem_map.mp hde
        obtain ⟨lt, m1, m2⟩ := zip_drop_lt st p hp
        have e1 : Dt.int p.1 = d := congrArg Prod.fst epq
        have e2 : Dt.int p.2 = e := congrArg Prod.snd epq
        subst e1; subst e2
        have b1 := starts_bd hc (by omega : 0 ≤ s) (show p.1 ∈ startsM cs s from m1)
        have b2 := starts_bd hc (by omega : 0 ≤ s) (show p.2 ∈ startsM cs s from m2)
        refine D_tup (ds := [intT' (courseM "ranges" cs p.1 s), .int (p.2 - p.1)]) (D_cons (D_fn (ds := [.str "ranges", intT' cs, .int p.1, .int s]) (D_cons (D_str _) (D_cons (D_var rfl (lf.ob (ox.same k1))) (D_cons (D_var rfl od) (D_cons (D_var rfl (.int s)) D_nil)))) fun H3 S3 vs R lf3 ovs qq => ?_) (D_cons (D_sub (D_var rfl oe) (D_var rfl od)) D_nil)) (by show 2 ≤ 1000; decide)
        cases ovs with
        | cons o1 t =>
          obtain ⟨a, b, e, rfl, o2, o3, o4⟩ := t.three
          rw [o1.str_inv, o3.int_inv, o4.int_inv]
          exact ⟨S3, "ranges", a, cs, p.1, s, rfl, o2, hc, b1.1, by omega, s40, lf3.live, qq⟩
    refine S_ret (d := pairsT (rangeRows cs s)) (D_eq d2 ?_) lv1 fun v H2 k2 o2 => q v H2 (k1.trans k2) o2
    show Dt.lst _ = Dt.lst _
    congr 1
    unfold rangeRows
    rw [map_drop1, List.zip_map, List.map_map, List.map_map]
    rfl
theorem ok_course_shares (T : Txt K mg) : FnOk P w K mg base (L2.CX P w) 4 T.a_course_shares T.d_course_shares ["kind", "counts", "size"] (spShares K T.exc) := by
  refine T.F_course_shares.okX sc_course_shares (fun vs H Q E h => ?_) (fun cdv A outer s₀ H vs Q E hr h => ?_)
  · obtain ⟨S, p, k, x, s, d, tk, ts, rfl, _⟩ := h
    rfl
  · obtain ⟨S, p, k, x, s, d, tk, ts, rfl, hk, ox, hs, hp, lv, qe, hd, q⟩ := h
    refine ⟨_, (pss_cons (ps_expr (pe_call (ok_check_kind T) (hr.mono (by decide)) rfl T.g_check_kind T.F_check_kind.kp T.b_check_kind .nil (passes_call (takes_of rfl rfl rfl rfl) (fun _ _ _ _ h => h)) (pa_cons (pv 0) pa_nil)))
      (pss_cons (ps_expr (pe_call (ok_check_counts T) (hr.mono (by decide)) rfl T.g_check_counts T.F_check_counts.kp T.b_check_counts .nil (passes_call (takes_of rfl rfl rfl rfl) (fun _ _ _ _ h => h)) (pa_cons (pv 1) pa_nil)))
      (pss_cons (ps_expr (pe_call (ok_check_size T) (hr.mono (by decide)) rfl T.g_check_size T.F_check_size.kp T.b_check_size .nil (passes_call (takes_of rfl rfl rfl rfl) (fun _ _ _ _ h => h)) (pa_cons (pv 2) pa_nil)))
      (pss_cons (ps_if (pt_cmpR op_eq (pv 0) pe_str (nomark _))
      (pss_one (ps_ret (pe_callB (cr_sortD K hr.units) (by rfl) T.z_sorted (by decide +kernel) (pa_cons (pe_call (ok_shares_by_rest T) (hr.mono (by decide)) rfl T.g_shares_by_rest T.F_shares_by_rest.kp T.b_shares_by_rest .nil pass0 (pa_cons (pv 1) (pa_cons (pv 2) pa_nil))) pa_nil))))
      pss_nil)
      (pss_one (ps_ret (pe_callB (cr_sortD K hr.units) (by rfl) T.z_sorted (by decide +kernel) (pa_cons (pe_call (ok_shares_by_ranges T) (hr.mono (by decide)) rfl T.g_shares_by_ranges T.F_shares_by_ranges.kp T.b_shares_by_ranges .nil pass0 (pa_cons (pv 1) (pa_cons (pv 2) pa_nil))) pa_nil)))))))), ?_⟩
    unfold sharesErr at qe
    refine ⟨k, rfl, k, tk, rfl, hk, ?_⟩
    cases e1 : kindV k with
    | false => rw [if_pos e1] at qe; exact qe _ rfl H fun _ _ z => z
    | true =>
    rw [if_neg (by rw [e1]; decide)] at qe
    refine ⟨x, rfl, p, x, d, rfl, ox.ob hp, fun H1 k1 => ⟨fun e => ?_, fun e2 => ?_⟩⟩
    · rw [if_pos e] at qe; exact qe _ rfl H1 k1
    rw [if_neg (by rw [e2]; decide)] at qe
    rcases hd with hd | ⟨cs, rfl, hc⟩
    · rw [hd] at e2; cases e2
    refine ⟨s, rfl, s, ts, rfl, hs H1 k1, ?_⟩
    cases e4 : wholeV s 1 (10 ^ 40) with
    | false =>
      rw [if_pos e4] at qe
      show spRes T.exc (if wholeV s 1 (10 ^ 40) = false then _ else _) _ _ _
      rw [if_pos e4]; exact qe _ rfl H1 k1
    | true =>
    show spRes T.exc (if wholeV s 1 (10 ^ 40) = false then _ else _) _ _ _
    rw [if_neg (by rw [e4]; decide)]
    obtain ⟨si, rfl, s1, s2⟩ := whole_int e4
    obtain ⟨ks, rfl, _⟩ := word_str e1
    have q' := q ks cs si rfl e1 rfl hc rfl s1 s2
    have lv1 := Lv.same k1 lv
    refine ⟨_, rfl, rfl, _, rfl, ite2 (fun e => ?_) (fun e => ?_)⟩
    · have e5 : V.str ks = .str "rest" := of_decide_eq_true e
      refine S_ret (d := pairsT (sharesM ks cs si)) (D_eq (D_sortP (K := K) (rows := restRows cs si) (D_fn (ds := [intT' cs, .int si]) (D_cons (D_var rfl (ox.same k1)) (D_cons (D_var rfl (.int si)) D_nil)) fun H3 S3 vs R lf3 ovs qq => ?_)) (by unfold sharesM pairsT; rw [if_pos e5])) lv1 fun v H2 k2 o2 => q' v H2 (k1.trans k2) o2
      obtain ⟨a, b, rfl, oa, ob⟩ := ovs.two
      rw [ob.int_inv]
      exact ⟨S3, a, cs, si, rfl, oa, hc, s1, s2, lf3.live, qq⟩
    · have e5 : ¬ V.str ks = .str "rest" := fun z => e (decide_eq_true z)
      refine S_ret (d := pairsT (sharesM ks cs si)) (D_eq (D_sortP (K := K) (rows := rangeRows cs si) (D_fn (ds := [intT' cs, .int si]) (D_cons (D_var rfl (ox.same k1)) (D_cons (D_var rfl (.int si)) D_nil)) fun H3 S3 vs R lf3 ovs qq => ?_)) (by unfold sharesM pairsT; rw [if_neg e5])) lv1 fun v H2 k2 o2 => q' v H2 (k1.trans k2) o2
      obtain ⟨a, b, rfl, oa, ob⟩ := ovs.two
      rw [ob.int_inv]
      exact ⟨S3, a, cs, si, rfl, oa, hc, s1, s2, lf3.live, qq⟩
end

/-! ### whatever it comes to -/
def DX (te : TE) (σ : L2.St) (H : Hp) (S : AS) (P : Dt → Prop) : Prop := ∀ (H1 : Hp) (S1 : AS) (Q : VK), Lift H S H1 S1 → (∀ v H2 d, P d → Same H1 H2 → Oc H2 S1 v d → Q v H2) → te σ H1 Q
theorem DE.x {te : TE} {σ : L2.St} {H : Hp} {S : AS} {d : Dt} (h : DE te σ H S d) {P : Dt → Prop} (hp : P d) : DX te σ H S P := fun H1 S1 Q x q => h H1 S1 Q x fun v H2 k o => q v H2 d hp k o
theorem DX.lift {te : TE} {σ : L2.St} {H H1 : Hp} {S S1 : AS} {P : Dt → Prop} (h : DX te σ H S P) (x : Lift H S H1 S1) : DX te σ H1 S1 P := fun H2 S2 Q y q => h H2 S2 Q (x.trans y) q
def isTup (ds : List Dt) (d : Dt) : Prop := ∃ z, d = .tup z ds
theorem ocs_take {H : Hp} {S : AS} : ∀ {xs : List V} {ds : List Dt} (b : Nat), Ocs H S xs ds → Ocs H S (xs.take b) (ds.take b)
  | _, _, 0, _ => .nil
  | _, _, b + 1, .nil => .nil
  | _, _, b + 1, .cons h t => .cons h (ocs_take b t)
theorem ocs_drop {H : Hp} {S : AS} : ∀ {xs : List V} {ds : List Dt} (b : Nat), Ocs H S xs ds → Ocs H S (xs.drop b) (ds.drop b)
  | _, _, 0, h => h
  | _, _, b + 1, .nil => .nil
  | _, _, b + 1, .cons h t => ocs_drop b t
theorem ocs_cut {H : Hp} {S : AS} {xs : List V} {ds : List Dt} (a b : Nat) (h : Ocs H S xs ds) : Ocs H S ((xs.drop a).take b) ((ds.drop a).take b) := ocs_take b (ocs_drop a h)
theorem X_slice {σ : L2.St} {H : Hp} {S : AS} {K : PySem.W.Frag} {ta : TE} {tl th : TO} {ds es : List Dt} {lo hi : Option Int} (ha : DX ta σ H S (isTup ds)) (hl : ∀ H1 (R : Option Int → Hp → Prop), R lo H1 → tl σ H1 R) (hh : ∀ H1 (R : Option Int → Hp → Prop), R hi H1 → th σ H1 R)
    (he : es = (ds.drop (HT.sIx ds.length 0 lo)).take (HT.sIx ds.length ds.length hi - HT.sIx ds.length 0 lo)) : DX (tSl (rSlA K) ta tl th) σ H S (isTup es) := fun H1 S1 Q x q =>
  ha H1 S1 _ x fun v H2 d hd k o => hl _ _ (hh _ _ (by
    obtain ⟨z, rfl⟩ := hd
    obtain ⟨a, xs, rfl, ea, na, oa⟩ := o.tup_inv
    have l := oa.len
    refine ⟨a, xs, rfl, ea.sq, fun hw => ?_, fun _ p hp => ?_⟩
    · rw [l] at hw
      have e : es = ds := by rw [he, hw.1, hw.2]; simp
      subst e
      exact q _ _ _ ⟨z, rfl⟩ k o
    · refine q _ _ (.tup false es) ⟨false, rfl⟩ (k.trans (same_upd hp)) (.tup (.new upd_same) (Lv.out (Lv.same k x.live) hp) ?_)
      rw [he, ← l]
      exact (ocs_cut _ _ oa).same (same_upd hp)))
theorem X_cat {σ : L2.St} {H : Hp} {S : AS} {K : PySem.W.Frag} {ta tb : TE} {ds es : List Dt} (ha : DX ta σ H S (isTup ds)) (hb : DX tb σ H S (isTup es)) (hz : ds.length + es.length ≤ 1000) : DX (tOp (rCatF K) ta tb) σ H S (isTup (ds ++ es)) := fun H1 S1 Q x q =>
  ha H1 S1 _ x fun v H2 d hd k o => (hb.lift (x.then k)) H2 S1 _ (Lift.refl (Lv.same k x.live)) fun u H3 e he k3 o3 => by
    obtain ⟨z, rfl⟩ := hd
    obtain ⟨z2, rfl⟩ := he
    obtain ⟨a, xs, rfl, ea, na, oa⟩ := o.tup_inv
    obtain ⟨b, ys, rfl, eb, nb, ob⟩ := o3.tup_inv
    have la := oa.len
    have lb := ob.len
    have oa' := oa.same k3
    refine ⟨a, b, xs, ys, rfl, rfl, (ea.same k3).sq, eb.sq, Nat.le_trans (show _ ≤ 1000 by omega) (by decide), fun e => ?_, fun e e2 => ?_, fun e e2 p H4 hp k4 tp g => ?_⟩
    · subst e
      cases oa
      exact q _ _ _ ⟨z2, rfl⟩ (k.trans k3) (.tup eb nb ob)
    · subst e2
      cases ob
      exact q _ _ _ ⟨z, by rw [List.append_nil]⟩ (k.trans k3) (.tup (ea.same k3) na oa')
    · exact q _ _ _ ⟨true, rfl⟩ ((k.trans k3).trans k4) (.tup tp (Lv.out (Lv.same k3 (Lv.same k x.live)) hp) ((oa'.append ob).same k4))
def spWrong : Sp := fun vs H Q _ => ∃ (S : AS) (x : V) (cs : List Int) (w a : Nat), vs = [x, .int (w : Nat), .int (a : Nat)] ∧ Oc H S x (intT' cs) ∧ Cnt cs ∧ w < 14 ∧ a < cs.length ∧ Lv H S ∧ ∀ v H' d, countsD d = false → Same H H' → Oc H' S v d → Q v H'
def toldW (w : Str) (k : V) (d : Dt) (s : V) : Str :=
  if w = "shares" then (match sharesErr k d s with | some "BadKind" => "kind" | some "BadSize" => "size" | some _ => "counts" | none => "none") else if countsD d = false then "counts" else "none"
def spTold (K : PySem.W.Frag) : Sp := fun vs H Q _ => ∃ (S : AS) (p : Addr) (w : Str) (x k s : V) (d : Dt) (tk ts : String), vs = [.str w, x, k, s] ∧ (w = "all" ∨ w = "small" ∨ w = "shares") ∧ (∀ H', Arg K H' k tk) ∧ (∀ H', Arg K H' s ts) ∧ Oc H S x d ∧ S p ∧ Lv H S ∧
  (countsD d = false ∨ ∃ cs, d = intT' cs ∧ Cnt cs) ∧ ∀ H', Same H H' → Q (.str (toldW w k d s)) H'
def strange : List Dt := [.int 0, .int 5, .int (-1), .bl true, .non, .str "2", .tup true [.int 2], .int (10 ^ 30)]
theorem strange_bad : ∀ i, i < 8 → ∃ d, strange[i]? = some d ∧ wholeD d 1 4 = false := by decide +kernel
theorem put_bad {d : Dt} {as bs : List Dt} {z : Bool} (h : wholeD d 1 4 = false) : countsD (.tup z (as ++ [d] ++ bs)) = false := by
  unfold countsD
  have e : ((itemsD (.tup z (as ++ [d] ++ bs))).all fun x => wholeD x 1 4) = false := by
    rw [List.all_eq_false]
    exact ⟨d, by show d ∈ as ++ [d] ++ bs; simp, by rw [h]; decide⟩
  rw [e, Bool.and_false]
theorem len_bad {z : Bool} {ds : List Dt} (h : ds.length < 2 ∨ 3 < ds.length) : countsD (.tup z ds) = false := by
  unfold countsD
  have e : rowD (.tup z ds) 2 3 = false := by
    show (decide ((2 : Int) ≤ (ds.length : Int)) && decide ((ds.length : Int) ≤ 3)) = false
    rcases h with h | h
    · rw [decide_eq_false (by omega)]; rfl
    · rw [decide_eq_false (p := (ds.length : Int) ≤ 3) (by omega), Bool.and_false]
  rw [e]; rfl
section
variable {P : Program} {w : World} {K : PySem.W.Frag} {mg : Str → Option Value} {base : Heap}
theorem ok_all_courses (T : Txt K mg) : FnOk P w K mg base (L2.CX P w) 4 T.a_all_courses T.d_all_courses ["counts"] (spAl T.exc coursesM) := by
  refine T.F_all_courses.okX sc_all_courses (fun vs H Q E h => ?_) (fun cdv A outer s H vs Q E hr h => ?_)
  · obtain ⟨S, S2, x, d, p, rfl, _⟩ := h
    rfl
  · obtain ⟨S, S2, x, d, p, rfl, ox, hp, lv, qe, q, hd⟩ := h
    refine ⟨_, (pss_cons (ps_expr (pe_call (ok_check_counts T) (hr.mono (by decide)) rfl T.g_check_counts T.F_check_counts.kp T.b_check_counts .nil (passes_call (takes_of rfl rfl rfl rfl) (fun _ _ _ _ h => h)) (pa_cons (pv 0) pa_nil)))
      (pss_one (ps_ret (pe_call (ok_courses_of T) (hr.mono (by decide)) rfl T.g_courses_of T.F_courses_of.kp T.b_courses_of .nil pass0 (pa_cons (pv 0) pa_nil))))), ?_⟩
    refine ⟨x, rfl, p, x, d, rfl, ox.ob hp, fun H1 k1 => ⟨fun e => qe e H1 k1, fun e => ?_⟩⟩
    rcases hd with hd | ⟨cs, rfl, hc⟩
    · rw [hd] at e; cases e
    exact ⟨x, rfl, S, S2, x, cs, rfl, ox.same k1, hc, Lv.same k1 lv, fun v2 H2 k2 o2 => q cs rfl hc v2 H2 (k1.trans k2) o2⟩
theorem ok_law_wrong (T : Txt K mg) : FnOk P w K mg base CX0 1 T.a_law_wrong T.d_law_wrong ["_law_counts", "_law_which", "_law_at"] spWrong := by
  refine T.F_law_wrong.ok sc_law_wrong (fun vs H Q E h => ?_) (fun cdv A outer s₀ H vs Q E hr h => ?_)
  · obtain ⟨S, x, cs, w, a, rfl, _⟩ := h
    rfl
  · obtain ⟨S, x, cs, w, at_, rfl, ox, hc, hw, ha, lv, q⟩ := h
    refine ⟨_, (pss_cons (ps_if (pt_cmpR op_eq (pv 1) pe_int (nomark _))
      (pss_one (ps_ret (pe_callTy call_list_of (by rfl) T.z_list (by decide +kernel) (pa_cons (pv 0) pa_nil))))
      pss_nil)
      (pss_cons (ps_if (pt_cmpR op_eq (pv 1) pe_int (nomark _))
      (pss_one (ps_ret (pe_slice sl_tupA (pv 0) po_none (po_some pe_int))))
      pss_nil)
      (pss_cons (ps_if (pt_cmpR op_eq (pv 1) pe_int (nomark _))
      (pss_one (ps_ret (pe_op (op_catFK K) (pv 0) (pe_tupF (pa_cons pe_int (pa_cons pe_int pa_nil))))))
      pss_nil)
      (pss_cons (ps_if (pt_cmpR op_eq (pv 1) pe_int (nomark _))
      (pss_one (ps_ret pe_non))
      pss_nil)
      (pss_cons (ps_if (pt_cmpR op_eq (pv 1) pe_int (nomark _))
      (pss_one (ps_ret (pe_tupF pa_nil)))
      pss_nil)
      (pss_cons (ps_if (pt_cmpR op_eq (pv 1) pe_int (nomark _))
      (pss_one (ps_ret (pe_callB (cr_maxT K (by rfl) hr.units) (by rfl) T.z_max (by decide +kernel) (pa_cons (pv 0) pa_nil))))
      pss_nil)
      (pss_cons (ps_set (i := 3) sc_law_wrong.nd rfl (Or.inl rfl) (pe_lst (pa_cons pe_int (pa_cons pe_int (pa_cons (pe_un un_neg pe_int) (pa_cons pe_bl (pa_cons pe_non (pa_cons pe_str (pa_cons (pe_tupF (pa_cons pe_int pa_nil)) (pa_cons (pe_op op_pow pe_int pe_int) pa_nil))))))))))
      (pss_one (ps_ret (pe_op (op_catFK K) (pe_op (op_catFK K) (pe_slice sl_tupA (pv 0) po_none (po_some (pv 2))) (pe_tupF (pa_cons (pe_ix (ixL K) (pv 3) (pe_op op_sub (pv 1) pe_int) (fun _ _ => rfl)) pa_nil))) (pe_slice sl_tupA (pv 0) (po_some (pe_op op_add (pv 2) pe_int)) po_none))))))))))), ?_⟩
    have l2 := hc.l1
    have l3 := hc.l2
    refine ⟨_, rfl, rfl, _, rfl, ite2 (fun e => ?_) (fun e0 => ?_)⟩
    · obtain ⟨b, xs, rfl, ea, na, oa⟩ := ox.tup_inv
      refine ⟨_, rfl, b, xs, rfl, .inr ea.sq, fun l hl => ?_⟩
      exact q _ _ (.lst (cs.map Dt.int)) rfl (same_upd hl) (.lst upd_same (Lv.out lv hl) (oa.same (same_upd hl)))
    refine ⟨_, rfl, rfl, _, rfl, ite2 (fun e => ?_) (fun e1 => ?_)⟩
    · refine (X_slice (K := K) (es := (cs.map Dt.int).take 1) (lo := none) (hi := some 1) (DE.x (D_var rfl ox) ⟨true, rfl⟩) (fun _ _ r => r) (fun _ _ r => ⟨1, rfl, r⟩) ?_) H S _ (Lift.refl lv) fun v H2 d hd k o => ?_
      · rw [HT.sIx_none, show HT.sIx (cs.map Dt.int).length (cs.map Dt.int).length (some 1) = min 1 (cs.map Dt.int).length from HT.sIx_nat _ _ 1]
        simp
      · obtain ⟨z, rfl⟩ := hd
        exact q _ _ _ (len_bad (.inl (by rw [List.length_take]; omega))) k o
    refine ⟨_, rfl, rfl, _, rfl, ite2 (fun e => ?_) (fun e2 => ?_)⟩
    · refine (D_cat (K := K) (D_var rfl ox) (D_tup (ds := [.int 1, .int 2]) (D_cons (D_int 1) (D_cons (D_int 2) D_nil)) (by decide)) (by rw [List.length_map]; show cs.length + 2 ≤ 1000; omega)) H S _ (Lift.refl lv) fun v H2 k o => ?_
      exact q _ _ _ (len_bad (.inr (by rw [List.length_append, List.length_map]; show 3 < cs.length + 2; omega))) k o
    refine ⟨_, rfl, rfl, _, rfl, ite2 (fun e => ?_) (fun e3 => ?_)⟩
    · exact q _ _ .non rfl (fun _ _ z => z) .non
    refine ⟨_, rfl, rfl, _, rfl, ite2 (fun e => ?_) (fun e4 => ?_)⟩
    · exact (D_tup (σ := [some x, some (.int (w : Nat)), some (.int (at_ : Nat)), none]) D_nil (by decide)) H S _ (Lift.refl lv) fun v H2 k o => q _ _ _ (len_bad (.inl (by decide))) k o
    refine ⟨_, rfl, rfl, _, rfl, ite2 (fun e => ?_) (fun e5 => ?_)⟩
    · obtain ⟨m, hm⟩ : ∃ m : Nat, maxL cs = m := by
        obtain ⟨c, r, rfl⟩ : ∃ c r, cs = c :: r := by
          cases cs with
          | nil => simp at l2
          | cons c r => exact ⟨c, r, rfl⟩
        exact ⟨(maxL (c :: r)).toNat, by have := le_maxL (List.mem_cons_self (a := c) (l := r)); have := (hc.all c List.mem_cons_self).1; omega⟩
      exact (D_maxInts (K := K) (D_var rfl ox) hm (fun z => by rw [z] at l2; simp at l2)) H S _ (Lift.refl lv) fun v H2 k o => q _ _ _ rfl k o
    have n0 : w ≠ 0 := fun z => e0 (by subst z; rfl)
    have n1 : w ≠ 1 := fun z => e1 (by subst z; rfl)
    have n2 : w ≠ 2 := fun z => e2 (by subst z; rfl)
    have n3 : w ≠ 3 := fun z => e3 (by subst z; rfl)
    have n4 : w ≠ 4 := fun z => e4 (by subst z; rfl)
    have n5 : w ≠ 5 := fun z => e5 (by subst z; rfl)
    obtain ⟨i, rfl⟩ : ∃ i, w = i + 6 := ⟨w - 6, by omega⟩
    obtain ⟨dd, hdd, hbad⟩ := strange_bad i (by omega)
    dsimp only [tNext]
    refine S_set (d := .lst strange) (D_lst (ds := strange) (D_cons (D_int 0) (D_cons (D_int 5) (D_cons ?n1 (D_cons ?n2 (D_cons ?n3 (D_cons (D_str "2") (D_cons (D_tup (ds := [.int 2]) (D_cons (D_int 2) D_nil) (by decide)) (D_cons ?n4 D_nil)))))))) (by decide)) lv fun v3 H2 k2 o2 => ?_
    case n1 => exact fun H1 S1 R y r => ⟨1, rfl, r _ _ (fun _ _ z => z) (.int _)⟩
    case n2 => exact fun H1 S1 R y r => r _ _ (fun _ _ z => z) (.bl true)
    case n3 => exact fun H1 S1 R y r => r _ _ (fun _ _ z => z) .non
    case n4 => exact fun H1 S1 R y r => ⟨10, 30, rfl, rfl, ⟨by decide, by decide, by decide⟩, r _ _ (fun _ _ z => z) (.int _)⟩
    have lv2 := Lv.same k2 lv
    have ox2 := ox.same k2
    have ec : (cs.map Dt.int).length = cs.length := List.length_map _
    have s1 : DX (tSl (rSlA K) (tVar 0) tNoPart (tPart (tVar 2))) [some x, some (.int ((i + 6 : Nat) : Int)), some (.int (at_ : Nat)), some v3] H2 S (isTup ((cs.map Dt.int).take at_)) :=
      X_slice (lo := none) (hi := some (at_ : Nat)) (DE.x (D_var rfl ox2) ⟨true, rfl⟩) (fun _ _ r => r) (fun _ _ r => ⟨_, rfl, _, rfl, r⟩) (by
        rw [HT.sIx_none, show HT.sIx (cs.map Dt.int).length (cs.map Dt.int).length (some ((at_ : Nat) : Int)) = min at_ (cs.map Dt.int).length from HT.sIx_nat _ _ at_, Nat.min_eq_left (by omega)]
        simp)
    have s2 : DX (tSl (rSlA K) (tVar 0) (tPart (tOp (rI0 fun i j => .int (i + j)) (tVar 2) (tC (.int 1)))) tNoPart) [some x, some (.int ((i + 6 : Nat) : Int)), some (.int (at_ : Nat)), some v3] H2 S (isTup ((cs.map Dt.int).drop (at_ + 1))) :=
      X_slice (lo := some ((at_ : Nat) + 1)) (hi := none) (DE.x (D_var rfl ox2) ⟨true, rfl⟩) (fun _ _ r => ⟨_, rfl, _, _, rfl, rfl, _, rfl, r⟩) (fun _ _ r => r) (by
        rw [HT.sIx_none, show HT.sIx (cs.map Dt.int).length 0 (some ((at_ : Nat) + 1 : Int)) = min (at_ + 1) (cs.map Dt.int).length from HT.sIx_nat _ 0 (at_ + 1), Nat.min_eq_left (by omega)]
        exact (List.take_of_length_le (by rw [List.length_drop]; omega)).symm)
    have s3 : DE (tTupF (tCons (tOp (rIxL K) (tVar 3) (tOp (rI0 fun i j => .int (i - j)) (tVar 1) (tC (.int 6)))) tNil)) [some x, some (.int ((i + 6 : Nat) : Int)), some (.int (at_ : Nat)), some v3] H2 S (.tup true [dd]) :=
      D_tup (D_cons (D_ixL (ds := strange) (i := i) (D_var rfl o2) (D_eq (D_sub (D_var rfl (.int _)) (D_int 6)) (by congr 1; omega)) hdd) D_nil) (by show 1 ≤ 1000; decide)
    refine X_cat (X_cat s1 (DE.x s3 (P := isTup [dd]) ⟨true, rfl⟩) (by rw [List.length_take]; show min _ _ + 1 ≤ 1000; omega)) s2 (by rw [List.length_append, List.length_take, List.length_drop]; show min _ _ + 1 + _ ≤ 1000; omega) H2 S _ (Lift.refl lv2) fun v H3 d hd k3 o3 => ?_
    obtain ⟨z, rfl⟩ := hd
    exact q _ _ _ (put_bad hbad) (k2.trans k3) o3
theorem told_err {n : String} {k s : V} {d : Dt} (h : sharesErr k d s = some n) : n = "BadKind" ∨ n = "BadSize" ∨ n = "BadCounts" := by
  unfold sharesErr at h
  split at h
  · exact .inl (Option.some.inj h).symm
  · split at h
    · exact .inr (.inr (Option.some.inj h).symm)
    · split at h
      · exact .inr (.inl (Option.some.inj h).symm)
      · cases h
theorem ok_law_told (T : Txt K mg) : FnOk P w K mg base CX0 5 T.a_law_told T.d_law_told ["_law_word", "_law_counts", "_law_kind", "_law_size"] (spTold K) := by
  refine T.F_law_told.ok sc_law_told (fun vs H Q E h => ?_) (fun cdv A outer s₀ H vs Q E hr h => ?_)
  · obtain ⟨S, p, w, x, k, s, d, tk, ts, rfl, _⟩ := h
    rfl
  · obtain ⟨S, p, w, x, k, s, d, tk, ts, rfl, hw, hk, hs, ox, hp, lv, hd, q⟩ := h
    refine ⟨_, (pss_cons (ps_set (i := 4) sc_law_told.nd rfl (Or.inl rfl) pe_str)
      (pss_cons (ps_try_many (Wout := fun _ _ _ _ => False) rfl rfl takes0 (fun W pn xe tk _ => (pss_cons (ps_if (pt_cmpR op_eq (pv 0) pe_str (nomark _))
      (pss_one (ps_expr (pe_callS (ok_all_courses T) (hr.mono (by decide)) rfl T.g_all_courses T.F_all_courses.kp T.b_all_courses (fun σ => passAt tk σ) (pa_cons (pv 1) pa_nil))))
      pss_nil)
      (pss_cons (ps_if (pt_cmpR op_eq (pv 0) pe_str (nomark _))
      (pss_one (ps_expr (pe_callS (ok_small_courses T) (hr.mono (by decide)) rfl T.g_small_courses T.F_small_courses.kp T.b_small_courses (fun σ => passAt tk σ) (pa_cons (pv 1) pa_nil))))
      pss_nil)
      (pss_one (ps_if (pt_cmpR op_eq (pv 0) pe_str (nomark _))
      (pss_one (ps_expr (pe_callS (ok_course_shares T) (hr.mono (by decide)) rfl T.g_course_shares T.F_course_shares.kp T.b_course_shares (fun σ => passAt tk σ) (pa_cons (pv 2) (pa_cons (pv 1) (pa_cons (pv 3) pa_nil))))))
      pss_nil))))) (.cons ⟨rfl, by decide, .inl T.g_BadKind⟩ (fun a oe cls d pn hz hf => (pss_one (ps_set (i := 4) sc_law_told.nd rfl (Or.inl rfl) pe_str))) (.cons ⟨rfl, by decide, .inl T.g_BadSize⟩ (fun a oe cls d pn hz hf => (pss_one (ps_set (i := 4) sc_law_told.nd rfl (Or.inl rfl) pe_str))) (.cons ⟨rfl, by decide, .inl T.g_BadCounts⟩ (fun a oe cls d pn hz hf => (pss_one (ps_set (i := 4) sc_law_told.nd rfl (Or.inl rfl) pe_str))) (.cons ⟨rfl, by decide, .inl T.g_LaneError⟩ (fun a oe cls d pn hz hf => (pss_one (ps_set (i := 4) sc_law_told.nd rfl (Or.inl rfl) pe_str))) .nil)))))
      (pss_one (ps_ret (pv 4))))), ?_⟩
    rcases hw with rfl | rfl | rfl
    · refine ⟨_, rfl, rfl, _, rfl, iteT ⟨x, rfl, S, S, x, d, p, rfl, ox, hp, lv, fun e H' k' => ?_, fun cs e hc v H' k' o => ?_, hd⟩⟩
      · have q' := q H' k'
        unfold toldW at q'
        rw [if_neg (by decide), if_pos e] at q'
        exact ⟨false, exm_pair T.p_BadKind T.i_BadKind T.t_BadKind T.q_BadCounts_BadKind, fun z => (nomatch z), fun _ => ⟨false, exm_pair T.p_BadSize T.i_BadSize T.t_BadSize T.q_BadCounts_BadSize, fun z => (nomatch z), fun _ => ⟨true, exm_pair T.p_BadCounts T.i_BadCounts T.t_BadCounts T.q_BadCounts_BadCounts, fun _ _ _ => ⟨_, rfl, q'⟩, fun z => nomatch z⟩⟩⟩
      · have q' := q H' k'
        subst e
        unfold toldW at q'
        rw [if_neg (by decide), if_neg (by rw [counts_cnt hc]; decide)] at q'
        exact ⟨_, rfl, rfl, _, rfl, iteF ⟨_, rfl, rfl, _, rfl, iteF ⟨_, rfl, q'⟩⟩⟩
    · refine ⟨_, rfl, rfl, _, rfl, iteF ⟨_, rfl, rfl, _, rfl, iteT ⟨x, rfl, S, x, d, p, rfl, ox, hp, lv, fun e H' k' => ?_, fun cs e hc v H' k' o => ?_, hd⟩⟩⟩
      · have q' := q H' k'
        unfold toldW at q'
        rw [if_neg (by decide), if_pos e] at q'
        exact ⟨false, exm_pair T.p_BadKind T.i_BadKind T.t_BadKind T.q_BadCounts_BadKind, fun z => (nomatch z), fun _ => ⟨false, exm_pair T.p_BadSize T.i_BadSize T.t_BadSize T.q_BadCounts_BadSize, fun z => (nomatch z), fun _ => ⟨true, exm_pair T.p_BadCounts T.i_BadCounts T.t_BadCounts T.q_BadCounts_BadCounts, fun _ _ _ => ⟨_, rfl, q'⟩, fun z => nomatch z⟩⟩⟩
      · have q' := q H' k'
        subst e
        unfold toldW at q'
        rw [if_neg (by decide), if_neg (by rw [counts_cnt hc]; decide)] at q'
        exact ⟨_, rfl, rfl, _, rfl, iteF ⟨_, rfl, q'⟩⟩
    · refine ⟨_, rfl, rfl, _, rfl, iteF ⟨_, rfl, rfl, _, rfl, iteF ⟨_, rfl, rfl, _, rfl, iteT ⟨_, rfl, _, rfl, _, rfl, S, p, k, x, s, d, tk, ts, rfl, hk H, ox, fun H' _ => hs H', hp, lv, fun n hn H' k' => ?_, hd, fun ks cs si e1 e2 e3 hc e4 s1 s2 v H' k' o => ?_⟩⟩⟩⟩
      · have q' := q H' k'
        unfold toldW at q'
        rw [if_pos rfl, hn] at q'
        rcases told_err hn with rfl | rfl | rfl
        · exact ⟨true, exm_pair T.p_BadKind T.i_BadKind T.t_BadKind T.q_BadKind_BadKind, fun _ _ _ => ⟨_, rfl, q'⟩, fun z => nomatch z⟩
        · exact ⟨false, exm_pair T.p_BadKind T.i_BadKind T.t_BadKind T.q_BadSize_BadKind, fun z => (nomatch z), fun _ => ⟨true, exm_pair T.p_BadSize T.i_BadSize T.t_BadSize T.q_BadSize_BadSize, fun _ _ _ => ⟨_, rfl, q'⟩, fun z => nomatch z⟩⟩
        · exact ⟨false, exm_pair T.p_BadKind T.i_BadKind T.t_BadKind T.q_BadCounts_BadKind, fun z => (nomatch z), fun _ => ⟨false, exm_pair T.p_BadSize T.i_BadSize T.t_BadSize T.q_BadCounts_BadSize, fun z => (nomatch z), fun _ => ⟨true, exm_pair T.p_BadCounts T.i_BadCounts T.t_BadCounts T.q_BadCounts_BadCounts, fun _ _ _ => ⟨_, rfl, q'⟩, fun z => nomatch z⟩⟩⟩
      · have q' := q H' k'
        subst e1; subst e3; subst e4
        have e : sharesErr (.str ks) (intT' cs) (.int si) = none := by
          unfold sharesErr
          rw [if_neg (by rw [e2]; decide), if_neg (by rw [counts_cnt hc]; decide), if_neg (by rw [whole_of s1 s2]; decide)]
        unfold toldW at q'
        rw [if_pos rfl, e] at q'
        exact ⟨_, rfl, q'⟩
end

def spLaw (K : PySem.W.Frag) : Sp := fun vs H Q _ => ∃ (a : Addr) (ns : List Int), vs = [.ref a] ∧ SqL K H a (ns.map V.int) ∧ ns.length ≤ 63 ∧ (∀ z ∈ ns, Builtin.Int.intBits z ≤ 1048576) ∧ ∀ H', Q (.bl true) H'
theorem D_all {σ : L2.St} {H : Hp} {S : AS} {K : PySem.W.Frag} {tl : TE} {bs : List Bool} (hl : DE tl σ H S (.lst (bs.map Dt.bl))) : DE (tCB (rAll K) (tCons tl tNil)) σ H S (.bl (bs.all id)) := fun H1 S1 Q y q =>
  hl H1 S1 _ y fun v H2 k o => by
    obtain ⟨a, ys, rfl, ea, na, oa⟩ := o.lst_inv
    have e := oa.bls
    subst e
    exact ⟨a, bs, rfl, SqL.of ea, q _ _ k (.bl _)⟩
theorem T_not {σ : L2.St} {H : Hp} {S : AS} {tt : TT} {b : Bool} (h : DT tt σ H S b) : DT (tNot tt) σ H S (!b) := fun H1 S1 Q x q => h H1 S1 _ x q
theorem T_val {σ : L2.St} {H : Hp} {S : AS} {te : TE} {b : Bool} (h : DE te σ H S (.bl b)) : DT (tB te) σ H S b := fun H1 S1 Q x q => h H1 S1 _ x fun v H2 k o => by
  rw [o.bl_inv]
  exact ⟨b, rfl, q H2 k⟩
theorem T_neL {σ : L2.St} {H : Hp} {S : AS} {K : PySem.W.Frag} {ta tb : TE} {a b : List (List Int)} (ha : DE ta σ H S (.lst (a.map intT'))) (hb : DE tb σ H S (.lst (b.map intT'))) : DT (tTest (tOp (rNeD K) ta tb)) σ H S (!decide (a = b)) := fun H1 S1 Q x q =>
  ha H1 S1 _ x fun v H2 k o => (hb.lift (x.then k)).go (Lv.same k x.live) fun u H3 k3 o3 => by
    refine ⟨_, _, (o.same k3).rows_dp, o3.rows_dp, shaped_rows a, shaped_rows b, _, rfl, ?_⟩
    rw [eqv_lists]
    exact q _ (k.trans k3)
theorem S_if {c : TT} {t1 t2 u : TS} {D : Ends} {σ : L2.St} {H : Hp} {S : AS} {b : Bool} (h : DT c σ H S b) (lv : Lv H S) (k : ∀ H2, Same H H2 → if b = true then t1 { D with nx := u D } σ H2 else t2 { D with nx := u D } σ H2) : tSeq (tIfS c t1 t2) u D σ H := h.go lv k
theorem all_true {α : Type} (l : List α) : (l.map fun _ => true).all id = true := by
  rw [List.all_eq_true]
  intro x hx
  obtain ⟨_, _, rfl⟩ := List.mem_map.mp hx
  rfl
/-- the due list, count by count -/
theorem wide_len {cs : List Int} (wl : Well cs) {i : Nat} (hi : i ≤ cs.length) : (coursesM (cs.take i)).length ≤ 64 := (wl.cpre i hi).1
section
variable {P : Program} {w : World} {K : PySem.W.Frag} {mg : Str → Option Value} {base : Heap}
theorem ok_law (T : Txt K mg) : FnOk P w K mg base CX0 6 T.a_law T.d_law ["_law_script"] (spLaw K) := by
  refine T.F_law.ok sc_law (fun vs H Q E h => ?_) (fun cdv A outer s₀ H vs Q E hr h => ?_)
  · obtain ⟨a, ns, rfl, _⟩ := h
    rfl
  · obtain ⟨x, ns, rfl, hS, hlen, hb, q⟩ := h
    refine ⟨_, (pss_cons (ps_set (i := 1) sc_law.nd rfl (Or.inr rfl) (pe_call (ok_law_source T) (hr.mono (by decide)) rfl T.g_law_source T.F_law_source.kp T.b_law_source .nil pass0 (pa_cons (pv 0) pa_nil)))
      (pss_cons (ps_set (i := 2) sc_law.nd rfl (Or.inl rfl) (pe_call (ok_law_draw T) (hr.mono (by decide)) rfl T.g_law_draw T.F_law_draw.kp T.b_law_draw .nil pass0 (pa_cons (pv 1) (pa_cons pe_int pa_nil))))
      (pss_cons (ps_set (i := 3) sc_law.nd rfl (Or.inl rfl) (pe_tupleOfF (by rfl) T.z_tuple (pe_lc (own := [("_law_k", 14)]) (g := gName 14) (tt := tYes) (by rfl) sc_law.nd (pi_range1 rfl T.z_range (pa_cons (pe_op op_add pe_int (pe_call (ok_law_draw T) (hr.mono (by decide)) rfl T.g_law_draw T.F_law_draw.kp T.b_law_draw .nil pass0 (pa_cons (pv 1) (pa_cons pe_int pa_nil)))) pa_nil)) (blkOk_by (own := [("_law_k", 14)]) (N := ["_law_script", "_law_source_here", "_law_which", "_law_counts", "_law_wrong_here", "_law_kind", "_law_pick", "_law_size", "_law_due", "_law_count", "_law_wider", "_law_course", "_law_found", "_law_first", "_law_k", "_law_row", "_law_lane"]) (sc := defScope s_law) (by decide +kernel)) (fun _ _ _ _ _ => (pg_name (i := 14) sc_law.nd rfl (Or.inl rfl))) (fun _ _ _ _ _ => pts_nil) (fun _ _ _ _ _ => (pe_op op_add pe_int (pe_call (ok_law_draw T) (hr.mono (by decide)) rfl T.g_law_draw T.F_law_draw.kp T.b_law_draw .nil pass0 (pa_cons (pv 1) (pa_cons pe_int pa_nil))))))))
      (pss_cons (ps_set (i := 4) sc_law.nd rfl (Or.inl rfl) (pe_call (ok_law_wrong T) (hr.mono (by decide)) rfl T.g_law_wrong T.F_law_wrong.kp T.b_law_wrong .nil pass0 (pa_cons (pv 3) (pa_cons (pv 2) (pa_cons (pe_call (ok_law_draw T) (hr.mono (by decide)) rfl T.g_law_draw T.F_law_draw.kp T.b_law_draw .nil pass0 (pa_cons (pv 1) (pa_cons (pe_callB call_len_seq (by rfl) T.z_len (by decide +kernel) (pa_cons (pv 3) pa_nil)) pa_nil))) pa_nil)))))
      (pss_cons (ps_set (i := 5) sc_law.nd rfl (Or.inl rfl) (pe_ix (ixL K) (pe_lst (pa_cons pe_str (pa_cons pe_str (pa_cons pe_str (pa_cons pe_non pa_nil))))) (pe_call (ok_law_draw T) (hr.mono (by decide)) rfl T.g_law_draw T.F_law_draw.kp T.b_law_draw .nil pass0 (pa_cons (pv 1) (pa_cons pe_int pa_nil))) (fun _ _ => rfl)))
      (pss_cons (ps_set (i := 6) sc_law.nd rfl (Or.inl rfl) (pe_call (ok_law_draw T) (hr.mono (by decide)) rfl T.g_law_draw T.F_law_draw.kp T.b_law_draw .nil pass0 (pa_cons (pv 1) (pa_cons pe_int pa_nil))))
      (pss_cons (ps_set (i := 7) sc_law.nd rfl (Or.inl rfl) (pe_ix (ixL K) (pe_lst (pa_cons pe_int (pa_cons (pe_op op_pow pe_int pe_int) (pa_cons pe_int (pa_cons pe_bl pa_nil))))) (pv 6) (fun _ _ => rfl)))
      (pss_cons (ps_set (i := 8) sc_law.nd rfl (Or.inl rfl) (pe_lst (pa_cons (pe_tupF pa_nil) pa_nil)))
      (pss_cons (ps_for PassesOwn.never rfl (pi_tup (pv 3)) (pg_name (i := 9) sc_law.nd rfl (Or.inl rfl))
      (pss_cons (ps_set (i := 10) sc_law.nd rfl (Or.inl rfl) (pe_lst pa_nil))
      (pss_cons (ps_for PassesOwn.never rfl (pi_list (pv 8)) (pg_name (i := 11) sc_law.nd rfl (Or.inr rfl))
      (pss_one (ps_set (i := 10) sc_law.nd rfl (Or.inl rfl) (pe_op op_cat (pv 10) (pe_lc (own := [("_law_lane", 16)]) (g := gName 16) (tt := tYes) (by rfl) sc_law.nd (pi_range1 rfl T.z_range (pa_cons (pv 9) pa_nil)) (blkOk_by (own := [("_law_lane", 16)]) (N := ["_law_script", "_law_source_here", "_law_which", "_law_counts", "_law_wrong_here", "_law_kind", "_law_pick", "_law_size", "_law_due", "_law_count", "_law_wider", "_law_course", "_law_found", "_law_first", "_law_k", "_law_row", "_law_lane"]) (sc := defScope s_law) (by decide +kernel)) (fun _ _ _ _ _ => (pg_name (i := 16) sc_law.nd rfl (Or.inl rfl))) (fun _ _ _ _ _ => pts_nil) (fun _ _ _ _ _ => (pe_op (op_catFK K) (pv 11) (pe_tupF (pa_cons (pv 16) pa_nil)))))))))
      (pss_one (ps_set (i := 8) sc_law.nd rfl (Or.inl rfl) (pv 10))))))
      (pss_cons (ps_set (i := 12) sc_law.nd rfl (Or.inl rfl) (pe_call (ok_all_courses T) (hr.mono (by decide)) rfl T.g_all_courses T.F_all_courses.kp T.b_all_courses .nil passL (pa_cons (pv 3) pa_nil)))
      (pss_cons (ps_if (PW.pt (pw_or (pt_not (pt_val (pe_callB call_isi (by rfl) T.z_isinstance (by decide +kernel) (pa_cons (pv 12) (pa_cons (pe_bltn (v := .ty "list") (by rfl) T.z_list (by decide +kernel) rfl) pa_nil))))) (pw_or (pt_not (pt_val (pe_callB (cr_all rfl) (by rfl) T.z_all (by decide +kernel) (pa_cons (pe_lc (own := [("_law_row", 15)]) (g := gName 15) (tt := tYes) (by rfl) sc_law.nd (pi_list (pv 12)) (blkOk_by (own := [("_law_row", 15)]) (N := ["_law_script", "_law_source_here", "_law_which", "_law_counts", "_law_wrong_here", "_law_kind", "_law_pick", "_law_size", "_law_due", "_law_count", "_law_wider", "_law_course", "_law_found", "_law_first", "_law_k", "_law_row", "_law_lane"]) (sc := defScope s_law) (by decide +kernel)) (fun _ _ _ _ _ => (pg_name (i := 15) sc_law.nd rfl (Or.inl rfl))) (fun _ _ _ _ _ => pts_nil) (fun _ _ _ _ _ => (pe_callB (isiK K) (by rfl) T.z_isinstance (by decide +kernel) (pa_cons (pv 15) (pa_cons (pe_bltn (v := .ty "tuple") (by rfl) T.z_tuple (by decide +kernel) rfl) pa_nil))))) pa_nil)))) (pw_or1 (pt_cmpR (op_neDK K hr.units) (pv 12) (pv 8) (nomark _))))))
      (pss_one (ps_ret pe_bl))
      pss_nil)
      (pss_cons (ps_if (pt_not (pt_val (pe_callB (cr_all rfl) (by rfl) T.z_all (by decide +kernel) (pa_cons (pe_lc (own := [("_law_row", 15)]) (g := gName 15) (tt := tYes) (by rfl) sc_law.nd (pi_list (pv 12)) (blkOk_by (own := [("_law_row", 15)]) (N := ["_law_script", "_law_source_here", "_law_which", "_law_counts", "_law_wrong_here", "_law_kind", "_law_pick", "_law_size", "_law_due", "_law_count", "_law_wider", "_law_course", "_law_found", "_law_first", "_law_k", "_law_row", "_law_lane"]) (sc := defScope s_law) (by decide +kernel)) (fun _ _ _ _ _ => (pg_name (i := 15) sc_law.nd rfl (Or.inl rfl))) (fun _ _ _ _ _ => pts_nil) (fun _ _ _ _ _ => (pe_callB (cr_allK K (by rfl)) (by rfl) T.z_all (by decide +kernel) (pa_cons (pe_lc (own := [("_law_lane", 16)]) (g := gName 16) (tt := tYes) (by rfl) sc_law.nd (pi_tupK K (pv 15)) (blkOk_in (own := [("_law_lane", 16)]) (N := ["_law_script", "_law_source_here", "_law_which", "_law_counts", "_law_wrong_here", "_law_kind", "_law_pick", "_law_size", "_law_due", "_law_count", "_law_wider", "_law_course", "_law_found", "_law_first", "_law_k", "_law_row", "_law_lane"]) (sc0 := defScope s_law) rfl (by decide +kernel)) (fun _ _ _ _ _ => (pg_name (i := 16) sc_law.nd rfl (Or.inl rfl))) (fun _ _ _ _ _ => pts_nil) (fun _ _ _ _ _ => (pe_call (ok_law_integer T) (hr.mono (by decide)) rfl T.g_law_integer T.F_law_integer.kp T.b_law_integer .nil pass0 (pa_cons (pv 16) pa_nil)))) pa_nil)))) pa_nil))))
      (pss_one (ps_ret pe_bl))
      pss_nil)
      (pss_cons (ps_expr (pe_bm PySem.F.plainAttrs_list PySem.F.slot_list_append PySem.F.type_list_append mt_append (pv 12) (pa_cons (pe_tupF (pa_cons pe_int (pa_cons pe_int pa_nil))) pa_nil)))
      (pss_cons (ps_if (pt_cmpR (op_neDK K hr.units) (pe_call (ok_all_courses T) (hr.mono (by decide)) rfl T.g_all_courses T.F_all_courses.kp T.b_all_courses .nil passL (pa_cons (pv 3) pa_nil)) (pv 8) (nomark _))
      (pss_one (ps_ret pe_bl))
      pss_nil)
      (pss_cons (ps_if (PW.pt (pw_or (pt_cmpR op_ne (pe_call (ok_law_told T) (hr.mono (by decide)) rfl T.g_law_told T.F_law_told.kp T.b_law_told .nil pass0 (pa_cons pe_str (pa_cons (pv 4) (pa_cons pe_str (pa_cons pe_int pa_nil))))) pe_str (nomark _)) (pw_or1 (pt_cmpR op_ne (pe_call (ok_law_told T) (hr.mono (by decide)) rfl T.g_law_told T.F_law_told.kp T.b_law_told .nil pass0 (pa_cons pe_str (pa_cons (pv 4) (pa_cons pe_str (pa_cons pe_int pa_nil))))) pe_str (nomark _)))))
      (pss_one (ps_ret pe_bl))
      pss_nil)
      (pss_cons (ps_set (i := 13) sc_law.nd rfl (Or.inl rfl) pe_str)
      (pss_cons (ps_if (pt_cmpR op_notIn_seq (pv 5) (pe_lst (pa_cons pe_str (pa_cons pe_str pa_nil))) rfl)
      (pss_one (ps_set (i := 13) sc_law.nd rfl (Or.inl rfl) pe_str))
      pss_nil)
      (pss_cons (ps_if (pt_cmpR op_ne (pe_call (ok_law_told T) (hr.mono (by decide)) rfl T.g_law_told T.F_law_told.kp T.b_law_told .nil pass0 (pa_cons pe_str (pa_cons (pv 4) (pa_cons (pv 5) (pa_cons (pv 7) pa_nil))))) (pv 13) (nomark _))
      (pss_one (ps_ret pe_bl))
      pss_nil)
      (pss_cons (ps_if (pt_cmpR op_eq (pv 13) pe_str (nomark _))
      (pss_one (ps_set (i := 13) sc_law.nd rfl (Or.inl rfl) (pe_ix (ixL K) (pe_lst (pa_cons pe_str (pa_cons pe_str (pa_cons pe_str (pa_cons pe_str pa_nil))))) (pv 6) (fun _ _ => rfl))))
      pss_nil)
      (pss_one (ps_ret (pe_and (pe_cmpR op_eq (pe_call (ok_law_told T) (hr.mono (by decide)) rfl T.g_law_told T.F_law_told.kp T.b_law_told .nil pass0 (pa_cons pe_str (pa_cons (pv 3) (pa_cons (pv 5) (pa_cons (pv 7) pa_nil))))) (pv 13) (nomark _)) (pe_one (pe_cmpR op_eq (pe_call (ok_law_told T) (hr.mono (by decide)) rfl T.g_law_told T.F_law_told.kp T.b_law_told .nil pass0 (pa_cons pe_str (pa_cons (pv 3) (pa_cons (pv 5) (pa_cons (pv 7) pa_nil))))) pe_str (nomark _))))))))))))))))))))))))), ?_⟩
    refine ⟨.ref x, rfl, x, ns, rfl, hS, hlen, hb, fun p H1 hp S1 k1 => ?_⟩
    have L1 : Live H1 (fun _ => False) := fun _ h => False.elim h
    dsimp only [gName]
    refine ⟨.ref p, rfl, p, 0, 14, _, rfl, S1, L1, by decide, by decide, by decide, fun wi H2 w0 w1 S2 B2 => ?_⟩
    obtain ⟨wh, rfl⟩ : ∃ n : Nat, wi = n := ⟨wi.toNat, by omega⟩
    have L2 := L1.but S2 B2
    dsimp only [gName]
    refine S_setQ (draw_counts (js := 1) (ik := 14) rfl (fun _ => rfl) (fun _ => rfl) S2 L2 (by decide) fun v3 cs H3 hc ov S3 B3 => ?_)
    have L3 := L2.but S3 B3
    have c2 := hc.l1
    have c3 := hc.l2
    obtain ⟨ca, cvs, rfl, eca, nca, oca⟩ := ov.tup_inv
    have eci := oca.ints
    subst eci
    refine ⟨_, rfl, _, rfl, _, rfl, _, rfl, _, _, rfl, .inr eca.sq, p, _, _, _, rfl, S3, L3, by decide, by rw [List.length_map]; omega, by rw [List.length_map]; omega, fun ai H4 a0 a1 S4 B4 => ?_⟩
    rw [List.length_map] at a1
    obtain ⟨at_, rfl⟩ : ∃ n : Nat, ai = n := ⟨ai.toNat, by omega⟩
    have L4 := L3.but S4 B4
    have ov4 := ov.but (but_S B4)
    refine ⟨only p, .ref ca, cs, wh, at_, rfl, ov4, hc, by omega, by omega, only_live S4, fun v4 H5 wd hwd k5 o5 => ?_⟩
    have S5 := S4.same k5
    have L5 := L4.same k5
    have ov5 := ov4.same k5
    -- the kind
    refine ⟨(by show 4 ≤ sizeLine; decide), fun l hl => ⟨_, rfl, p, _, 4, _, rfl, S5.same (same_upd hl), L5.same (same_upd hl), by decide, by decide, by decide, fun kn H6 kn0 kn1 S6 B6 => ?_⟩⟩
    have nl : l ≠ p := S5.ne hl
    obtain ⟨kd, ekd, hkd⟩ : ∃ kd, atI [V.str "rest", V.str "ranges", V.str "rows", V.non] kn = some kd ∧ (kd = .str "rest" ∨ kd = .str "ranges" ∨ kd = .str "rows" ∨ kd = .non) := by
      have h : kn = 0 ∨ kn = 1 ∨ kn = 2 ∨ kn = 3 := by omega
      rcases h with rfl | rfl | rfl | rfl
      · exact ⟨_, rfl, .inl rfl⟩
      · exact ⟨_, rfl, .inr (.inl rfl)⟩
      · exact ⟨_, rfl, .inr (.inr (.inl rfl))⟩
      · exact ⟨_, rfl, .inr (.inr (.inr rfl))⟩
    refine ⟨l, _, _, kd, rfl, rfl, SqL.of (B6 _ _ nl upd_same), ekd, ?_⟩
    have L6 := (L5.same (same_upd (o := .lst [V.str "rest", V.str "ranges", V.str "rows", V.non]) hl)).but S6 B6
    have B56 : But p H5 H6 := But.new (same_upd hl) B6
    -- the pick
    refine ⟨_, rfl, p, _, 4, _, rfl, S6, L6, by decide, by decide, by decide, fun pk H7 pk0 pk1 S7 B7 => ?_⟩
    have L7 := L6.but S7 B7
    obtain ⟨pn, rfl⟩ : ∃ n : Nat, pk = n := ⟨pk.toNat, by omega⟩
    have pn4 : pn < 4 := by omega
    -- the size
    obtain ⟨sz, esz, hsz⟩ : ∃ sz, atI [V.int 7, V.int ((10 : Int) ^ (40 : Int).toNat), V.int 0, V.bl true] (pn : Nat) = some sz ∧ (sz = .int 7 ∧ pn = 0 ∨ sz = .int (10 ^ 40) ∧ pn = 1 ∨ sz = .int 0 ∧ pn = 2 ∨ sz = .bl true ∧ pn = 3) := by
      have h : pn = 0 ∨ pn = 1 ∨ pn = 2 ∨ pn = 3 := by omega
      rcases h with rfl | rfl | rfl | rfl
      · exact ⟨_, rfl, .inl ⟨rfl, rfl⟩⟩
      · exact ⟨_, rfl, .inr (.inl ⟨rfl, rfl⟩)⟩
      · exact ⟨_, rfl, .inr (.inr (.inl ⟨rfl, rfl⟩))⟩
      · exact ⟨_, rfl, .inr (.inr (.inr ⟨rfl, rfl⟩))⟩
    refine ⟨10, 40, rfl, rfl, ⟨by decide, by decide, by decide⟩, (by show 4 ≤ sizeLine; decide), fun l2 hl2 => ⟨_, rfl, l2, _, _, sz, rfl, rfl, SqL.of upd_same, esz, ?_⟩⟩
    have B57 : But p H5 (upd H7 l2 (.lst [V.int 7, V.int ((10 : Int) ^ (40 : Int).toNat), V.int 0, V.bl true])) := (B56.trans B7).trans (Same.but (same_upd hl2))
    have S8 := S7.same (same_upd (o := .lst [V.int 7, V.int ((10 : Int) ^ (40 : Int).toNat), V.int 0, V.bl true]) hl2)
    generalize upd H7 l2 (.lst [V.int 7, V.int ((10 : Int) ^ (40 : Int).toNat), V.int 0, V.bl true]) = H8 at B57 S8 ⊢
    have lv8 := only_live S8
    have ov8 := ov5.but (but_S B57)
    have o8 := o5.but (but_S B57)
    have wl := well hc
    have d0 : DE (tLst (tCons (tTupF tNil) tNil)) [some (.ref x), some (.ref p), some (.int (wh : Nat)), some (.ref ca), some v4, some kd, some (.int (pn : Nat)), some sz, none, none, none, none, none, none, none, none, none] H8 (only p) (rowsT (coursesM [])) := D_lst (D_cons (D_tup D_nil (by decide)) D_nil) (by decide)
    refine S_set d0 lv8 fun v H9 k9 o9 => ?_
    obtain ⟨ca', cvs', e0, eca8, nca8, oca8⟩ := ov8.tup_inv
    cases e0
    have e1 := oca8.ints
    subst e1
    refine ⟨_, rfl, ca, rfl, ⟨_, (eca8.same k9).sq⟩, for_tup (xs := cs.map V.int) (fun i σ' H' => ∃ (v : V) (c9 c10 c11 : Option V), σ' = [some (.ref x), some (.ref p), some (.int (wh : Nat)), some (.ref ca), some v4, some kd, some (.int (pn : Nat)), some sz, some v, c9, c10, c11, none, none, none, none, none] ∧ Same H8 H' ∧ Oc H' (only p) v (rowsT (coursesM (cs.take i)))) ⟨v, none, none, none, rfl, k9, o9⟩ (fun i σ' H' _ h => by
      obtain ⟨v, c9, c10, c11, rfl, k, o⟩ := h
      exact (eca8.same k).sq) ?_ ?_⟩
    · rintro i y σ' H' hy ⟨v, c9, c10, c11, rfl, k, o⟩
      rw [List.getElem?_map] at hy
      obtain ⟨c, hcg, rfl⟩ := Option.map_eq_some_iff.mp hy
      obtain ⟨c1, c4⟩ := hc.all c (List.mem_of_getElem? hcg)
      obtain ⟨n, rfl⟩ : ∃ n : Nat, c = n := ⟨c.toNat, by omega⟩
      have hi : i < cs.length := (List.getElem?_eq_some_iff.mp hcg).1
      obtain ⟨wp1, wp2⟩ := wl.cpre i (by omega)
      have lv := Lv.same k lv8
      dsimp only [gName]
      refine S_set (d := rowsT []) (D_lst D_nil (by decide)) lv fun u H2 k2 o2 => ?_
      obtain ⟨a, xs, rfl, ea, na, oa⟩ := (o.same k2).lst_inv
      refine ⟨_, rfl, a, rfl, ⟨_, SqL.of ea⟩, for_list (xs := xs) (fun j σ' H3 => ∃ (u : V) (c11 : Option V), σ' = [some (.ref x), some (.ref p), some (.int (wh : Nat)), some (.ref ca), some v4, some kd, some (.int (pn : Nat)), some sz, some (.ref a), some (.int (n : Nat)), some u, c11, none, none, none, none, none] ∧ Same H2 H3 ∧ Oc H3 (only p) u (rowsT (((coursesM (cs.take i)).take j).flatMap fun r => (List.range n).map (snocR r)))) ⟨u, c11, rfl, fun _ _ z => z, o2⟩ (fun j σ' H3 _ h => by
        obtain ⟨u, c11, rfl, k3, o3⟩ := h
        exact SqL.of (k3 _ _ ea)) ?_ ?_⟩
      · rintro j y σ' H3 hy ⟨u, c11, rfl, k3, o3⟩
        obtain ⟨d, hd, od⟩ := oa.get hy
        rw [List.getElem?_map] at hd
        obtain ⟨row, hrow, rfl⟩ := Option.map_eq_some_iff.mp hd
        have rl := wp2 row (List.mem_of_getElem? hrow)
        dsimp only [gName]
        have ody := od.same k3
        have dc : DE (tLc (iRng1 (tCons (tVar 9) tNil)) (gName 16) tYes (tOp (rCatF K) (tVar 11) (tTupF (tCons (tVar 16) tNil))) [16]) [some (.ref x), some (.ref p), some (.int (wh : Nat)), some (.ref ca), some v4, some kd, some (.int (pn : Nat)), some sz, some (.ref a), some (.int (n : Nat)), some u, some y, none, none, none, none, none] H3 (only p)
            (.lst ((upto n).filterMap fun e => if (fun (_ : List Int) (_ : Nat) => true) row (Lc.intD e).toNat = true then some (intT' (row ++ [Lc.intD e])) else none)) := by
          refine D_lcR (D_var rfl (.int _)) (by omega) fun l H4 S4 hl lf => ?_
          rw [if_pos rfl]
          refine turn_map rfl lf.live (D_eq (D_cat (ds := row.map Dt.int) (es := [.int (l : Nat)]) (D_var rfl (lf.ob ody)) (D_tup (D_cons (D_var rfl (.int _)) D_nil) (by show 1 ≤ 1000; decide)) ?_) ?_)
          · rw [List.length_map]; show row.length + 1 ≤ 1000; omega
          · unfold intT'; rw [List.map_append]; rfl
        have dd := D_catL (D_var (i := 10) rfl o3) dc (by
          have h2 : (((coursesM (cs.take i)).take j).flatMap fun r => (List.range n).map (snocR r)).length ≤ 1000 := by
            refine Nat.le_trans (fl_len _ _ 4 fun r _ => by rw [List.length_map, List.length_range]; omega) ?_
            have := List.length_take_le j (coursesM (cs.take i))
            have := List.length_take_le' j (coursesM (cs.take i))
            omega
          rw [List.length_map]
          have h3 := List.length_filterMap_le (fun e => if (fun (_ : List Int) (_ : Nat) => true) row (Lc.intD e).toNat = true then some (intT' (row ++ [Lc.intD e])) else none) (upto n)
          rw [upto_len] at h3
          omega)
        refine S_set1 dd (Lv.same (k2.trans k3) lv) fun z H4 k4 o4 => ⟨z, some y, rfl, k3.trans k4, ?_⟩
        rw [List.take_add_one, hrow]
        have e := rowOf_conv (fun _ => []) [row] n (fun _ _ => true)
        simp only [List.map_cons, List.map_nil, List.flatMap_cons, List.flatMap_nil, List.append_nil, rowOf_int, if_true] at e
        simp only [if_true] at o4
        rw [e] at o4
        have e3 : ((List.range n).filter fun _ => true) = List.range n := List.filter_eq_self.mpr fun _ _ => rfl
        rw [e3] at o4
        rw [List.flatMap_append]
        unfold rowsT
        rw [List.map_append]
        simpa using o4
      · rintro σ' H3 ⟨u, c11, rfl, k3, o3⟩
        have ll := oa.len
        rw [List.length_map] at ll
        rw [ll, List.take_length] at o3
        refine S_set1 (D_var (i := 10) rfl o3) (Lv.same (k2.trans k3) lv) fun z H4 k4 o4 => ⟨z, _, _, _, rfl, ((k.trans k2).trans k3).trans k4, ?_⟩
        rw [List.take_add_one, hcg]
        show Oc H4 (only p) z (rowsT (coursesM (cs.take i ++ [(n : Int)])))
        rw [mem_coursesM_snoc, Int.toNat_natCast]
        exact o4
    · rintro σ' Hd ⟨v8, c9, c10, c11, rfl, kd8, od⟩
      rw [List.length_map, List.take_length] at od
      have lvd := Lv.same kd8 lv8
      have ovd := ov8.same kd8
      have owd := o8.same kd8
      have pl : Hd p ≠ none := lvd p rfl
      refine ⟨_, rfl, only p, (fun b => Hd b ≠ none), .ref ca, intT' cs, p, rfl, ovd, rfl, (fun a h => h), fun e => (by rw [counts_cnt hc] at e; cases e), fun cs' e hc' v12 He ke oe => ?_, .inr ⟨cs, rfl, hc⟩⟩
      have ecs : cs = cs' := by rw [← rowOf_int cs', ← e, rowOf_int]
      subst ecs
      obtain ⟨fa, fs, rfl, ef, nf, of⟩ := oe.lst_inv
      have hfa : Hd fa = none := Classical.not_not.mp nf
      have oe1 : Oc He (only p) (.ref fa) (rowsT (coursesM cs)) := oe.sub fun a ha => (by rw [show a = p from ha]; exact pl)
      have lve := Lv.same ke lvd
      have l64 := wl.c64
      refine ⟨_, rfl, _, _, _, _, _, rfl, .ty _, (oe1.arg (K := K)).ty, kit_l _, _, rfl, iteF ?_⟩
      have dall : DE (tCB (rAll K) (tCons (tLc (iList K (tVar 12)) (gName 15) tYes (tCB (rIsi K) (tCons (tVar 15) (tCons (tC (.ty "tuple")) tNil))) [15]) tNil)) [some (.ref x), some (.ref p), some (.int (wh : Nat)), some (.ref ca), some v4, some kd, some (.int (pn : Nat)), some sz, some v8, c9, c10, c11, some (.ref fa), none, none, none, none] He (only p) (.bl (((coursesM cs).map fun _ => true).all id)) := by
        refine D_all (D_eq (D_lcL (K := K) (ds := (coursesM cs).map intT') (r := fun _ => some (.bl true)) (D_var rfl oe1) (by rw [List.length_map]; omega) fun v d H1 S1 hd lf od => ?_) ?_)
        · obtain ⟨row, _, rfl⟩ := List.mem_map.mp hd
          exact turn_map rfl lf.live fun H2 S2 R lf2 qq => ⟨v, rfl, v, _, _, _, _, rfl, .ty _, ((lf2.ob od).arg (K := K)).ty, kit_t _, qq _ _ (fun _ _ z => z) (.bl _)⟩
        · congr 1
          rw [List.filterMap_map, List.map_map]
          exact List.filterMap_eq_map ▸ rfl
      refine (T_not (T_val dall)).go lve fun Hf kf => ?_
      rw [all_true]
      refine iteF ?_
      have lvf := Lv.same kf lve
      refine (T_neL (K := K) (a := coursesM cs) (b := coursesM cs) (D_var (i := 12) rfl (oe1.same kf)) (D_var (i := 8) rfl ((od.same ke).same kf))).go lvf fun Hg kg => ?_
      rw [decide_eq_true rfl]
      refine iteF ?_
      have lvg := Lv.same kg lvf
      have oeg := (oe1.same kf).same kg
      have dn : DE (tCB (rAll K) (tCons (tLc (iList K (tVar 12)) (gName 15) tYes (tCB (rAll K) (tCons (tLc (iTup K (tVar 15)) (gName 16) tYes (tCall (spIsInt K) [] E0 (tCons (tVar 16) tNil)) [16]) tNil)) [15]) tNil)) [some (.ref x), some (.ref p), some (.int (wh : Nat)), some (.ref ca), some v4, some kd, some (.int (pn : Nat)), some sz, some v8, c9, c10, c11, some (.ref fa), none, none, none, none] Hg (only p) (.bl (((coursesM cs).map fun _ => true).all id)) := by
        refine D_all (K := K) (bs := (coursesM cs).map fun _ => true) (D_eq (D_lcL (K := K) (ds := (coursesM cs).map intT') (r := fun _ => some (.bl true)) (D_var (i := 12) rfl oeg) (by rw [List.length_map]; omega) ?c1) ?c2)
        case c2 =>
          congr 1
          rw [List.filterMap_map, List.map_map]
          exact List.filterMap_eq_map ▸ rfl
        case c1 =>
          intro v d H1 S1 hd lf od
          obtain ⟨row, hrow, rfl⟩ := List.mem_map.mp hd
          have r3 : row.length ≤ 3 := (wl.cpre cs.length (Nat.le_refl _)).2 row (by rw [List.take_length]; exact hrow)
          have ea : Dt.bl true = .bl ((row.map fun _ => true).all id) := by rw [all_true]
          rw [ea]
          refine turn_map rfl lf.live (D_all (K := K) (bs := row.map fun _ => true) (D_eq (D_lcT (K := K) (ds := row.map Dt.int) (z := true) (r := fun _ => some (.bl true)) (D_var rfl od) (by rw [List.length_map]; omega) fun u e H2 S2 he lf2 oe2 => ?_) ?_))
          · obtain ⟨l, _, rfl⟩ := List.mem_map.mp he
            refine turn_map rfl lf2.live (D_fn (ds := [.int l]) (D_cons (D_var rfl oe2) D_nil) fun H3 S3 vs R lf3 ovs qq => ?_)
            obtain ⟨u, rfl, ou⟩ := ovs.one
            rw [ou.int_inv]
            exact ⟨.int l, "int", rfl, .int l, qq _ _ (fun _ _ z => z) (.bl _)⟩
          · congr 1
            rw [List.filterMap_map, List.map_map]
            exact List.filterMap_eq_map ▸ rfl
      dsimp only [tNext]
      refine S_if (T_not (T_val dn)) lvg fun Hh kh => ?_
      rw [all_true]
      refine iteF ?_
      -- the list handed out is written to
      have kk := (kf.trans kg).trans kh
      have efh := kk _ _ ef
      refine ⟨_, rfl, .inl ⟨rfl, _, SqL.of efh⟩, (by show 2 ≤ sizeLine; decide), fun t Ht ht kt tpt gt => ?_⟩
      have eft := kt _ _ efh
      have lfs : fs.length ≤ 64 := by have := of.len; rw [List.length_map] at this; omega
      refine ⟨fa, fs, .ref t, rfl, rfl, eft, Nat.lt_of_le_of_lt lfs (by decide), ?_⟩
      have kd2 := ke.trans (kk.trans kt)
      have lf : Lift Hd (only p) (upd Ht fa (.lst (fs ++ [.ref t]))) (And1 (only p) fa) := by
        refine ⟨fun h => ((h.add hfa).same kd2).put (.inr rfl), fun a ha z => ?_, fun a h => .inl h, fun b u hb => by rw [upd_ne (ne_of_none hb hfa)]; exact kd2 _ _ hb⟩
        by_cases e : a = fa
        · rw [e, upd_same] at z; cases z
        · rcases ha with ha | ha
          · rw [upd_ne e] at z
            exact Lv.same kd2 lvd a ha z
          · exact e ha
      generalize upd Ht fa (.lst (fs ++ [.ref t])) = Hc at lf ⊢
      have lvc := lf.live
      have ovc := lf.ob ovd
      have odc := lf.ob od
      have owc := lf.ob owd
      have pc : (And1 (only p) fa) p := .inl rfl
      refine (T_neL (K := K) (a := coursesM cs) (b := coursesM cs) (D_fn (ds := [intT' cs]) (D_cons (D_var (i := 3) rfl ovc) D_nil) fun H2 S2 vs R lf2 ovs qq => ?_) (D_var (i := 8) rfl odc)).go lvc fun Hi ki => ?_
      · obtain ⟨u, rfl, ou⟩ := ovs.one
        refine ⟨S2, S2, u, intT' cs, p, rfl, ou, lf2.sub p pc, lf2.live, fun e => (by rw [counts_cnt hc] at e; cases e), fun cs' e hc' v H3 k3 o3 => ?_, .inr ⟨cs, rfl, hc⟩⟩
        have ecs : cs = cs' := by rw [← rowOf_int cs', ← e, rowOf_int]
        subst ecs
        exact qq v H3 k3 o3
      rw [decide_eq_true rfl]
      refine iteF ?_
      have lvi := Lv.same ki lvc
      have ovi := ovc.same ki
      have owi := owc.same ki
      have t1 : toldW "all" (.str "rest") wd (.int 5) = "counts" := by unfold toldW; rw [if_neg (by decide), if_pos hwd]
      have t2 : toldW "small" (.str "rest") wd (.int 5) = "counts" := by unfold toldW; rw [if_neg (by decide), if_pos hwd]
      refine ⟨_, rfl, _, p, "all", v4, .str "rest", .int 5, wd, "str", "int", rfl, .inl rfl, fun _ => .str _, fun _ => .int _, owi, pc, lvi, .inl hwd, fun Hj kj => ?_⟩
      rw [t1]
      refine ⟨rfl, _, rfl, iteF ?_⟩
      refine ⟨_, rfl, _, p, "small", v4, .str "rest", .int 5, wd, "str", "int", rfl, .inr (.inl rfl), fun _ => .str _, fun _ => .int _, owi.same kj, pc, Lv.same kj lvi, .inl hwd, fun Hk kk2 => ?_⟩
      rw [t2]
      refine ⟨rfl, _, rfl, iteF ?_⟩
      have kik := kj.trans kk2
      have lvk := Lv.same kik lvi
      have ovk := ovi.same kik
      have owk := owi.same kik
      obtain ⟨tk, htk⟩ : ∃ tk, ∀ H', Arg K H' kd tk := by
        rcases hkd with rfl | rfl | rfl | rfl
        · exact ⟨_, fun _ => .str _⟩
        · exact ⟨_, fun _ => .str _⟩
        · exact ⟨_, fun _ => .str _⟩
        · exact ⟨_, fun _ => .non⟩
      obtain ⟨ts, hts⟩ : ∃ ts, ∀ H', Arg K H' sz ts := by
        rcases hsz with ⟨rfl, _⟩ | ⟨rfl, _⟩ | ⟨rfl, _⟩ | ⟨rfl, _⟩
        · exact ⟨_, fun _ => .int _⟩
        · exact ⟨_, fun _ => .int _⟩
        · exact ⟨_, fun _ => .int _⟩
        · exact ⟨_, fun _ => .bl _⟩
      dsimp only [tNext]
      refine S_setQ ?_
      show tSeq (tIfS _ _ _) _ _ _ _
      refine if_cut (fun σ' H' => σ' = [some (.ref x), some (.ref p), some (.int (wh : Nat)), some (.ref ca), some v4, some kd, some (.int (pn : Nat)), some sz, some v8, c9, c10, c11, some (.ref fa), some (.str (if kindV kd = false then "kind" else "counts")), none, none, none] ∧ Same Hk H') ?_ (fun K1 => ?_)
      rotate_left
      · refine ⟨_, rfl, (by show 2 ≤ sizeLine; decide), fun lz hlz => ⟨lz, _, rfl, .inl (SqL.of upd_same), ?_, ?_, _, rfl, ?_⟩⟩
        · rcases hkd with rfl | rfl | rfl | rfl <;> rfl
        · rfl
        · rcases hkd with rfl | rfl | rfl | rfl
          · exact iteF (K1 _ _ ⟨rfl, same_upd hlz⟩)
          · exact iteF (K1 _ _ ⟨rfl, same_upd hlz⟩)
          · exact iteT (K1 _ _ ⟨rfl, same_upd hlz⟩)
          · exact iteT (K1 _ _ ⟨rfl, same_upd hlz⟩)
      rintro σ' Hl ⟨rfl, kl⟩
      have lvl := Lv.same kl lvk
      have ovl := ovk.same kl
      have owl := owk.same kl
      have t3 : toldW "shares" kd wd sz = if kindV kd = false then ("kind" : Str) else ("counts" : Str) := by
        unfold toldW sharesErr
        rw [if_pos rfl]
        by_cases e : kindV kd = false
        · rw [if_pos e, if_pos e]; rfl
        · rw [if_neg e, if_neg e, if_pos hwd]; rfl
      refine ⟨_, rfl, _, rfl, _, rfl, _, p, "shares", v4, kd, sz, wd, tk, ts, rfl, .inr (.inr rfl), htk, hts, owl, pc, lvl, .inl hwd, fun Hm km => ⟨_, rfl, ?_⟩⟩
      rw [t3]
      refine ⟨rfl, _, rfl, ite2 (fun e => (by exfalso; rw [decide_eq_true rfl] at e; cases e)) (fun _ => ?_)⟩
      have lvm := Lv.same km lvl
      have ovm := ovl.same km
      dsimp only [tNext]
      refine if_cut (fun σ' H' => σ' = [some (.ref x), some (.ref p), some (.int (wh : Nat)), some (.ref ca), some v4, some kd, some (.int (pn : Nat)), some sz, some v8, c9, c10, c11, some (.ref fa), some (.str (if kindV kd = false then "kind" else if wholeV sz 1 (10 ^ 40) = false then "size" else "none")), none, none, none] ∧ Same Hm H') ?_ (fun K1 => ?_)
      rotate_left
      · refine ⟨_, rfl, rfl, _, rfl, ite2 (fun e => ?_) (fun e => ?_)⟩
        · have kg : kindV kd ≠ false := fun z => by
            rw [if_pos z] at e
            exact absurd e (by decide)
          refine ⟨(by show 4 ≤ sizeLine; decide), fun lz hlz => ⟨_, rfl, lz, _, _, (if wholeV sz 1 (10 ^ 40) = false then V.str "size" else V.str "none"), rfl, rfl, SqL.of upd_same, ?_, ?_⟩⟩
          · rcases hsz with ⟨rfl, rfl⟩ | ⟨rfl, rfl⟩ | ⟨rfl, rfl⟩ | ⟨rfl, rfl⟩ <;> decide +kernel
          · refine K1 _ _ ⟨?_, same_upd hlz⟩
            rw [if_neg kg]
            split <;> rfl
        · have kb : kindV kd = false := by
            cases z : kindV kd with
            | false => rfl
            | true => exact absurd (by rw [z]; decide) e
          refine K1 _ _ ⟨?_, fun _ _ z => z⟩
          rw [if_pos kb, if_pos kb]
      rintro σ' Hn ⟨rfl, kn2⟩
      have lvn := Lv.same kn2 lvm
      have ovn := ovm.same kn2
      have t4 : toldW "shares" kd (intT' cs) sz = if kindV kd = false then ("kind" : Str) else if wholeV sz 1 (10 ^ 40) = false then ("size" : Str) else ("none" : Str) := by
        unfold toldW sharesErr
        rw [if_pos rfl]
        by_cases e : kindV kd = false
        · rw [if_pos e, if_pos e]; rfl
        · rw [if_neg e, if_neg e, if_neg (by rw [counts_cnt hc]; decide)]
          by_cases e2 : wholeV sz 1 (10 ^ 40) = false
          · rw [if_pos e2, if_pos e2]; rfl
          · rw [if_neg e2, if_neg e2]
      have t5 : toldW "small" kd (intT' cs) sz = "none" := by unfold toldW; rw [if_neg (by decide), if_neg (by rw [counts_cnt hc]; decide)]
      refine ⟨_, rfl, _, rfl, _, rfl, _, p, "shares", .ref ca, kd, sz, intT' cs, tk, ts, rfl, .inr (.inr rfl), htk, hts, ovn, pc, lvn, .inr ⟨cs, rfl, hc⟩, fun Ho ko => ⟨_, rfl, ?_⟩⟩
      rw [t4]
      refine ⟨rfl, _, rfl, ?_⟩
      rw [decide_eq_true rfl]
      refine iteT ⟨_, rfl, _, rfl, _, rfl, _, p, "small", .ref ca, kd, sz, intT' cs, tk, ts, rfl, .inr (.inl rfl), htk, hts, ovn.same ko, pc, Lv.same ko lvn, .inr ⟨cs, rfl, hc⟩, fun Hp kp => ?_⟩
      rw [t5]
      refine ⟨rfl, ?_⟩
      exact q Hp
end

theorem all_mk {P : Program} {w : World} {K : PySem.W.Frag} {h : Heap} {mg : Str → Option Value} {fa f_is_whole f_is_word f_is_row f_all_courses f_small_courses f_course_shares f_is_counts f_check_kind f_check_size f_check_counts f_lane_at f_lane_start f_courses_of f_renamings_of f_renamed f_least_alike f_shares_by_rest f_shares_by_ranges f_course_of f_period_of f_law_source f_law_draw f_law_integer f_law_told f_law_wrong C_LaneError C_BadKind C_BadSize C_BadCounts c_KINDS : Addr}
    (X : K.In h) (G : h.Ns mainGlobals mg) (hfa : mg "law" = some (.ref fa))
    {oc_is_whole kV_is_whole dc_is_whole pm_is_whole cd_is_whole ct_is_whole : Value} {od_is_whole an_is_whole : Option Addr} {sl_is_whole : Array (Option Value)}
    (a_is_whole : PySem.W.nsIn K mainGlobals "is_whole" = some (some (.ref f_is_whole)))
    (l_is_whole : K.lookup f_is_whole = some ⟨oc_is_whole, od_is_whole, .func (PySem.W.fnOf "is_whole" "is_whole" (defArgs s_is_whole) (defBody s_is_whole) (defScope s_is_whole) .none kV_is_whole dc_is_whole pm_is_whole an_is_whole cd_is_whole ct_is_whole), sl_is_whole⟩)
    (c_is_whole : PySem.W.codeIn K cd_is_whole "is_whole" = true) (k_is_whole : PySem.W.keepIn K (.ref f_is_whole) = true)
    {oc_is_word kV_is_word dc_is_word pm_is_word cd_is_word ct_is_word : Value} {od_is_word an_is_word : Option Addr} {sl_is_word : Array (Option Value)}
    (a_is_word : PySem.W.nsIn K mainGlobals "is_word" = some (some (.ref f_is_word)))
    (l_is_word : K.lookup f_is_word = some ⟨oc_is_word, od_is_word, .func (PySem.W.fnOf "is_word" "is_word" (defArgs s_is_word) (defBody s_is_word) (defScope s_is_word) .none kV_is_word dc_is_word pm_is_word an_is_word cd_is_word ct_is_word), sl_is_word⟩)
    (c_is_word : PySem.W.codeIn K cd_is_word "is_word" = true) (k_is_word : PySem.W.keepIn K (.ref f_is_word) = true)
    {oc_is_row kV_is_row dc_is_row pm_is_row cd_is_row ct_is_row : Value} {od_is_row an_is_row : Option Addr} {sl_is_row : Array (Option Value)}
    (a_is_row : PySem.W.nsIn K mainGlobals "is_row" = some (some (.ref f_is_row)))
    (l_is_row : K.lookup f_is_row = some ⟨oc_is_row, od_is_row, .func (PySem.W.fnOf "is_row" "is_row" (defArgs s_is_row) (defBody s_is_row) (defScope s_is_row) .none kV_is_row dc_is_row pm_is_row an_is_row cd_is_row ct_is_row), sl_is_row⟩)
    (c_is_row : PySem.W.codeIn K cd_is_row "is_row" = true) (k_is_row : PySem.W.keepIn K (.ref f_is_row) = true)
    {oc_all_courses kV_all_courses dc_all_courses pm_all_courses cd_all_courses ct_all_courses : Value} {od_all_courses an_all_courses : Option Addr} {sl_all_courses : Array (Option Value)}
    (a_all_courses : PySem.W.nsIn K mainGlobals "all_courses" = some (some (.ref f_all_courses)))
    (l_all_courses : K.lookup f_all_courses = some ⟨oc_all_courses, od_all_courses, .func (PySem.W.fnOf "all_courses" "all_courses" (defArgs s_all_courses) (defBody s_all_courses) (defScope s_all_courses) .none kV_all_courses dc_all_courses pm_all_courses an_all_courses cd_all_courses ct_all_courses), sl_all_courses⟩)
    (c_all_courses : PySem.W.codeIn K cd_all_courses "all_courses" = true) (k_all_courses : PySem.W.keepIn K (.ref f_all_courses) = true)
    {oc_small_courses kV_small_courses dc_small_courses pm_small_courses cd_small_courses ct_small_courses : Value} {od_small_courses an_small_courses : Option Addr} {sl_small_courses : Array (Option Value)}
    (a_small_courses : PySem.W.nsIn K mainGlobals "small_courses" = some (some (.ref f_small_courses)))
    (l_small_courses : K.lookup f_small_courses = some ⟨oc_small_courses, od_small_courses, .func (PySem.W.fnOf "small_courses" "small_courses" (defArgs s_small_courses) (defBody s_small_courses) (defScope s_small_courses) .none kV_small_courses dc_small_courses pm_small_courses an_small_courses cd_small_courses ct_small_courses), sl_small_courses⟩)
    (c_small_courses : PySem.W.codeIn K cd_small_courses "small_courses" = true) (k_small_courses : PySem.W.keepIn K (.ref f_small_courses) = true)
    {oc_course_shares kV_course_shares dc_course_shares pm_course_shares cd_course_shares ct_course_shares : Value} {od_course_shares an_course_shares : Option Addr} {sl_course_shares : Array (Option Value)}
    (a_course_shares : PySem.W.nsIn K mainGlobals "course_shares" = some (some (.ref f_course_shares)))
    (l_course_shares : K.lookup f_course_shares = some ⟨oc_course_shares, od_course_shares, .func (PySem.W.fnOf "course_shares" "course_shares" (defArgs s_course_shares) (defBody s_course_shares) (defScope s_course_shares) .none kV_course_shares dc_course_shares pm_course_shares an_course_shares cd_course_shares ct_course_shares), sl_course_shares⟩)
    (c_course_shares : PySem.W.codeIn K cd_course_shares "course_shares" = true) (k_course_shares : PySem.W.keepIn K (.ref f_course_shares) = true)
    {oc_is_counts kV_is_counts dc_is_counts pm_is_counts cd_is_counts ct_is_counts : Value} {od_is_counts an_is_counts : Option Addr} {sl_is_counts : Array (Option Value)}
    (a_is_counts : PySem.W.nsIn K mainGlobals "is_counts" = some (some (.ref f_is_counts)))
    (l_is_counts : K.lookup f_is_counts = some ⟨oc_is_counts, od_is_counts, .func (PySem.W.fnOf "is_counts" "is_counts" (defArgs s_is_counts) (defBody s_is_counts) (defScope s_is_counts) .none kV_is_counts dc_is_counts pm_is_counts an_is_counts cd_is_counts ct_is_counts), sl_is_counts⟩)
    (c_is_counts : PySem.W.codeIn K cd_is_counts "is_counts" = true) (k_is_counts : PySem.W.keepIn K (.ref f_is_counts) = true)
    {oc_check_kind kV_check_kind dc_check_kind pm_check_kind cd_check_kind ct_check_kind : Value} {od_check_kind an_check_kind : Option Addr} {sl_check_kind : Array (Option Value)}
    (a_check_kind : PySem.W.nsIn K mainGlobals "check_kind" = some (some (.ref f_check_kind)))
    (l_check_kind : K.lookup f_check_kind = some ⟨oc_check_kind, od_check_kind, .func (PySem.W.fnOf "check_kind" "check_kind" (defArgs s_check_kind) (defBody s_check_kind) (defScope s_check_kind) .none kV_check_kind dc_check_kind pm_check_kind an_check_kind cd_check_kind ct_check_kind), sl_check_kind⟩)
    (c_check_kind : PySem.W.codeIn K cd_check_kind "check_kind" = true) (k_check_kind : PySem.W.keepIn K (.ref f_check_kind) = true)
    {oc_check_size kV_check_size dc_check_size pm_check_size cd_check_size ct_check_size : Value} {od_check_size an_check_size : Option Addr} {sl_check_size : Array (Option Value)}
    (a_check_size : PySem.W.nsIn K mainGlobals "check_size" = some (some (.ref f_check_size)))
    (l_check_size : K.lookup f_check_size = some ⟨oc_check_size, od_check_size, .func (PySem.W.fnOf "check_size" "check_size" (defArgs s_check_size) (defBody s_check_size) (defScope s_check_size) .none kV_check_size dc_check_size pm_check_size an_check_size cd_check_size ct_check_size), sl_check_size⟩)
    (c_check_size : PySem.W.codeIn K cd_check_size "check_size" = true) (k_check_size : PySem.W.keepIn K (.ref f_check_size) = true)
    {oc_check_counts kV_check_counts dc_check_counts pm_check_counts cd_check_counts ct_check_counts : Value} {od_check_counts an_check_counts : Option Addr} {sl_check_counts : Array (Option Value)}
    (a_check_counts : PySem.W.nsIn K mainGlobals "check_counts" = some (some (.ref f_check_counts)))
    (l_check_counts : K.lookup f_check_counts = some ⟨oc_check_counts, od_check_counts, .func (PySem.W.fnOf "check_counts" "check_counts" (defArgs s_check_counts) (defBody s_check_counts) (defScope s_check_counts) .none kV_check_counts dc_check_counts pm_check_counts an_check_counts cd_check_counts ct_check_counts), sl_check_counts⟩)
    (c_check_counts : PySem.W.codeIn K cd_check_counts "check_counts" = true) (k_check_counts : PySem.W.keepIn K (.ref f_check_counts) = true)
    {oc_lane_at kV_lane_at dc_lane_at pm_lane_at cd_lane_at ct_lane_at : Value} {od_lane_at an_lane_at : Option Addr} {sl_lane_at : Array (Option Value)}
    (a_lane_at : PySem.W.nsIn K mainGlobals "lane_at" = some (some (.ref f_lane_at)))
    (l_lane_at : K.lookup f_lane_at = some ⟨oc_lane_at, od_lane_at, .func (PySem.W.fnOf "lane_at" "lane_at" (defArgs s_lane_at) (defBody s_lane_at) (defScope s_lane_at) .none kV_lane_at dc_lane_at pm_lane_at an_lane_at cd_lane_at ct_lane_at), sl_lane_at⟩)
    (c_lane_at : PySem.W.codeIn K cd_lane_at "lane_at" = true) (k_lane_at : PySem.W.keepIn K (.ref f_lane_at) = true)
    {oc_lane_start kV_lane_start dc_lane_start pm_lane_start cd_lane_start ct_lane_start : Value} {od_lane_start an_lane_start : Option Addr} {sl_lane_start : Array (Option Value)}
    (a_lane_start : PySem.W.nsIn K mainGlobals "lane_start" = some (some (.ref f_lane_start)))
    (l_lane_start : K.lookup f_lane_start = some ⟨oc_lane_start, od_lane_start, .func (PySem.W.fnOf "lane_start" "lane_start" (defArgs s_lane_start) (defBody s_lane_start) (defScope s_lane_start) .none kV_lane_start dc_lane_start pm_lane_start an_lane_start cd_lane_start ct_lane_start), sl_lane_start⟩)
    (c_lane_start : PySem.W.codeIn K cd_lane_start "lane_start" = true) (k_lane_start : PySem.W.keepIn K (.ref f_lane_start) = true)
    {oc_courses_of kV_courses_of dc_courses_of pm_courses_of cd_courses_of ct_courses_of : Value} {od_courses_of an_courses_of : Option Addr} {sl_courses_of : Array (Option Value)}
    (a_courses_of : PySem.W.nsIn K mainGlobals "courses_of" = some (some (.ref f_courses_of)))
    (l_courses_of : K.lookup f_courses_of = some ⟨oc_courses_of, od_courses_of, .func (PySem.W.fnOf "courses_of" "courses_of" (defArgs s_courses_of) (defBody s_courses_of) (defScope s_courses_of) .none kV_courses_of dc_courses_of pm_courses_of an_courses_of cd_courses_of ct_courses_of), sl_courses_of⟩)
    (c_courses_of : PySem.W.codeIn K cd_courses_of "courses_of" = true) (k_courses_of : PySem.W.keepIn K (.ref f_courses_of) = true)
    {oc_renamings_of kV_renamings_of dc_renamings_of pm_renamings_of cd_renamings_of ct_renamings_of : Value} {od_renamings_of an_renamings_of : Option Addr} {sl_renamings_of : Array (Option Value)}
    (a_renamings_of : PySem.W.nsIn K mainGlobals "renamings_of" = some (some (.ref f_renamings_of)))
    (l_renamings_of : K.lookup f_renamings_of = some ⟨oc_renamings_of, od_renamings_of, .func (PySem.W.fnOf "renamings_of" "renamings_of" (defArgs s_renamings_of) (defBody s_renamings_of) (defScope s_renamings_of) .none kV_renamings_of dc_renamings_of pm_renamings_of an_renamings_of cd_renamings_of ct_renamings_of), sl_renamings_of⟩)
    (c_renamings_of : PySem.W.codeIn K cd_renamings_of "renamings_of" = true) (k_renamings_of : PySem.W.keepIn K (.ref f_renamings_of) = true)
    {oc_renamed kV_renamed dc_renamed pm_renamed cd_renamed ct_renamed : Value} {od_renamed an_renamed : Option Addr} {sl_renamed : Array (Option Value)}
    (a_renamed : PySem.W.nsIn K mainGlobals "renamed" = some (some (.ref f_renamed)))
    (l_renamed : K.lookup f_renamed = some ⟨oc_renamed, od_renamed, .func (PySem.W.fnOf "renamed" "renamed" (defArgs s_renamed) (defBody s_renamed) (defScope s_renamed) .none kV_renamed dc_renamed pm_renamed an_renamed cd_renamed ct_renamed), sl_renamed⟩)
    (c_renamed : PySem.W.codeIn K cd_renamed "renamed" = true) (k_renamed : PySem.W.keepIn K (.ref f_renamed) = true)
    {oc_least_alike kV_least_alike dc_least_alike pm_least_alike cd_least_alike ct_least_alike : Value} {od_least_alike an_least_alike : Option Addr} {sl_least_alike : Array (Option Value)}
    (a_least_alike : PySem.W.nsIn K mainGlobals "least_alike" = some (some (.ref f_least_alike)))
    (l_least_alike : K.lookup f_least_alike = some ⟨oc_least_alike, od_least_alike, .func (PySem.W.fnOf "least_alike" "least_alike" (defArgs s_least_alike) (defBody s_least_alike) (defScope s_least_alike) .none kV_least_alike dc_least_alike pm_least_alike an_least_alike cd_least_alike ct_least_alike), sl_least_alike⟩)
    (c_least_alike : PySem.W.codeIn K cd_least_alike "least_alike" = true) (k_least_alike : PySem.W.keepIn K (.ref f_least_alike) = true)
    {oc_shares_by_rest kV_shares_by_rest dc_shares_by_rest pm_shares_by_rest cd_shares_by_rest ct_shares_by_rest : Value} {od_shares_by_rest an_shares_by_rest : Option Addr} {sl_shares_by_rest : Array (Option Value)}
    (a_shares_by_rest : PySem.W.nsIn K mainGlobals "shares_by_rest" = some (some (.ref f_shares_by_rest)))
    (l_shares_by_rest : K.lookup f_shares_by_rest = some ⟨oc_shares_by_rest, od_shares_by_rest, .func (PySem.W.fnOf "shares_by_rest" "shares_by_rest" (defArgs s_shares_by_rest) (defBody s_shares_by_rest) (defScope s_shares_by_rest) .none kV_shares_by_rest dc_shares_by_rest pm_shares_by_rest an_shares_by_rest cd_shares_by_rest ct_shares_by_rest), sl_shares_by_rest⟩)
    (c_shares_by_rest : PySem.W.codeIn K cd_shares_by_rest "shares_by_rest" = true) (k_shares_by_rest : PySem.W.keepIn K (.ref f_shares_by_rest) = true)
    {oc_shares_by_ranges kV_shares_by_ranges dc_shares_by_ranges pm_shares_by_ranges cd_shares_by_ranges ct_shares_by_ranges : Value} {od_shares_by_ranges an_shares_by_ranges : Option Addr} {sl_shares_by_ranges : Array (Option Value)}
    (a_shares_by_ranges : PySem.W.nsIn K mainGlobals "shares_by_ranges" = some (some (.ref f_shares_by_ranges)))
    (l_shares_by_ranges : K.lookup f_shares_by_ranges = some ⟨oc_shares_by_ranges, od_shares_by_ranges, .func (PySem.W.fnOf "shares_by_ranges" "shares_by_ranges" (defArgs s_shares_by_ranges) (defBody s_shares_by_ranges) (defScope s_shares_by_ranges) .none kV_shares_by_ranges dc_shares_by_ranges pm_shares_by_ranges an_shares_by_ranges cd_shares_by_ranges ct_shares_by_ranges), sl_shares_by_ranges⟩)
    (c_shares_by_ranges : PySem.W.codeIn K cd_shares_by_ranges "shares_by_ranges" = true) (k_shares_by_ranges : PySem.W.keepIn K (.ref f_shares_by_ranges) = true)
    {oc_course_of kV_course_of dc_course_of pm_course_of cd_course_of ct_course_of : Value} {od_course_of an_course_of : Option Addr} {sl_course_of : Array (Option Value)}
    (a_course_of : PySem.W.nsIn K mainGlobals "course_of" = some (some (.ref f_course_of)))
    (l_course_of : K.lookup f_course_of = some ⟨oc_course_of, od_course_of, .func (PySem.W.fnOf "course_of" "course_of" (defArgs s_course_of) (defBody s_course_of) (defScope s_course_of) .none kV_course_of dc_course_of pm_course_of an_course_of cd_course_of ct_course_of), sl_course_of⟩)
    (c_course_of : PySem.W.codeIn K cd_course_of "course_of" = true) (k_course_of : PySem.W.keepIn K (.ref f_course_of) = true)
    {oc_period_of kV_period_of dc_period_of pm_period_of cd_period_of ct_period_of : Value} {od_period_of an_period_of : Option Addr} {sl_period_of : Array (Option Value)}
    (a_period_of : PySem.W.nsIn K mainGlobals "period_of" = some (some (.ref f_period_of)))
    (l_period_of : K.lookup f_period_of = some ⟨oc_period_of, od_period_of, .func (PySem.W.fnOf "period_of" "period_of" (defArgs s_period_of) (defBody s_period_of) (defScope s_period_of) .none kV_period_of dc_period_of pm_period_of an_period_of cd_period_of ct_period_of), sl_period_of⟩)
    (c_period_of : PySem.W.codeIn K cd_period_of "period_of" = true) (k_period_of : PySem.W.keepIn K (.ref f_period_of) = true)
    {oc_law_source kV_law_source dc_law_source pm_law_source cd_law_source ct_law_source : Value} {od_law_source an_law_source : Option Addr} {sl_law_source : Array (Option Value)}
    (a_law_source : PySem.W.nsIn K mainGlobals "_law_source" = some (some (.ref f_law_source)))
    (l_law_source : K.lookup f_law_source = some ⟨oc_law_source, od_law_source, .func (PySem.W.fnOf "_law_source" "_law_source" (defArgs s_law_source) (defBody s_law_source) (defScope s_law_source) .none kV_law_source dc_law_source pm_law_source an_law_source cd_law_source ct_law_source), sl_law_source⟩)
    (c_law_source : PySem.W.codeIn K cd_law_source "_law_source" = true) (k_law_source : PySem.W.keepIn K (.ref f_law_source) = true)
    {oc_law_draw kV_law_draw dc_law_draw pm_law_draw cd_law_draw ct_law_draw : Value} {od_law_draw an_law_draw : Option Addr} {sl_law_draw : Array (Option Value)}
    (a_law_draw : PySem.W.nsIn K mainGlobals "_law_draw" = some (some (.ref f_law_draw)))
    (l_law_draw : K.lookup f_law_draw = some ⟨oc_law_draw, od_law_draw, .func (PySem.W.fnOf "_law_draw" "_law_draw" (defArgs s_law_draw) (defBody s_law_draw) (defScope s_law_draw) .none kV_law_draw dc_law_draw pm_law_draw an_law_draw cd_law_draw ct_law_draw), sl_law_draw⟩)
    (c_law_draw : PySem.W.codeIn K cd_law_draw "_law_draw" = true) (k_law_draw : PySem.W.keepIn K (.ref f_law_draw) = true)
    {oc_law_integer kV_law_integer dc_law_integer pm_law_integer cd_law_integer ct_law_integer : Value} {od_law_integer an_law_integer : Option Addr} {sl_law_integer : Array (Option Value)}
    (a_law_integer : PySem.W.nsIn K mainGlobals "_law_integer" = some (some (.ref f_law_integer)))
    (l_law_integer : K.lookup f_law_integer = some ⟨oc_law_integer, od_law_integer, .func (PySem.W.fnOf "_law_integer" "_law_integer" (defArgs s_law_integer) (defBody s_law_integer) (defScope s_law_integer) .none kV_law_integer dc_law_integer pm_law_integer an_law_integer cd_law_integer ct_law_integer), sl_law_integer⟩)
    (c_law_integer : PySem.W.codeIn K cd_law_integer "_law_integer" = true) (k_law_integer : PySem.W.keepIn K (.ref f_law_integer) = true)
    {oc_law_told kV_law_told dc_law_told pm_law_told cd_law_told ct_law_told : Value} {od_law_told an_law_told : Option Addr} {sl_law_told : Array (Option Value)}
    (a_law_told : PySem.W.nsIn K mainGlobals "_law_told" = some (some (.ref f_law_told)))
    (l_law_told : K.lookup f_law_told = some ⟨oc_law_told, od_law_told, .func (PySem.W.fnOf "_law_told" "_law_told" (defArgs s_law_told) (defBody s_law_told) (defScope s_law_told) .none kV_law_told dc_law_told pm_law_told an_law_told cd_law_told ct_law_told), sl_law_told⟩)
    (c_law_told : PySem.W.codeIn K cd_law_told "_law_told" = true) (k_law_told : PySem.W.keepIn K (.ref f_law_told) = true)
    {oc_law_wrong kV_law_wrong dc_law_wrong pm_law_wrong cd_law_wrong ct_law_wrong : Value} {od_law_wrong an_law_wrong : Option Addr} {sl_law_wrong : Array (Option Value)}
    (a_law_wrong : PySem.W.nsIn K mainGlobals "_law_wrong" = some (some (.ref f_law_wrong)))
    (l_law_wrong : K.lookup f_law_wrong = some ⟨oc_law_wrong, od_law_wrong, .func (PySem.W.fnOf "_law_wrong" "_law_wrong" (defArgs s_law_wrong) (defBody s_law_wrong) (defScope s_law_wrong) .none kV_law_wrong dc_law_wrong pm_law_wrong an_law_wrong cd_law_wrong ct_law_wrong), sl_law_wrong⟩)
    (c_law_wrong : PySem.W.codeIn K cd_law_wrong "_law_wrong" = true) (k_law_wrong : PySem.W.keepIn K (.ref f_law_wrong) = true)
    {f_law : Addr}
    {oc_law kV_law dc_law pm_law cd_law ct_law : Value} {od_law an_law : Option Addr} {sl_law : Array (Option Value)}
    (a_law : PySem.W.nsIn K mainGlobals "law" = some (some (.ref f_law)))
    (l_law : K.lookup f_law = some ⟨oc_law, od_law, .func (PySem.W.fnOf "law" "law" (defArgs s_law) (defBody s_law) (defScope s_law) .none kV_law dc_law pm_law an_law cd_law ct_law), sl_law⟩)
    (c_law : PySem.W.codeIn K cd_law "law" = true) (k_law : PySem.W.keepIn K (.ref f_law) = true)
    (z_all : PySem.W.nsIn K mainGlobals "all" = some none)
    (z_bool : PySem.W.nsIn K mainGlobals "bool" = some none)
    (z_int : PySem.W.nsIn K mainGlobals "int" = some none)
    (z_isinstance : PySem.W.nsIn K mainGlobals "isinstance" = some none)
    (z_len : PySem.W.nsIn K mainGlobals "len" = some none)
    (z_list : PySem.W.nsIn K mainGlobals "list" = some none)
    (z_max : PySem.W.nsIn K mainGlobals "max" = some none)
    (z_min : PySem.W.nsIn K mainGlobals "min" = some none)
    (z_range : PySem.W.nsIn K mainGlobals "range" = some none)
    (z_sorted : PySem.W.nsIn K mainGlobals "sorted" = some none)
    (z_str : PySem.W.nsIn K mainGlobals "str" = some none)
    (z_tuple : PySem.W.nsIn K mainGlobals "tuple" = some none)
    (z_zip : PySem.W.nsIn K mainGlobals "zip" = some none)
    (a_lcm : PySem.W.nsIn K mainGlobals "lcm" = some (some (.builtin "math.lcm")))
    {od_KINDS : Option Addr} {ns_KINDS : Nat} {sl_KINDS : Array (Option Value)} {t0_KINDS : Tok} {t1_KINDS : Tok}
    (a_KINDS : PySem.W.nsIn K mainGlobals "KINDS" = some (some (.ref c_KINDS)))
    (l_KINDS : K.lookup c_KINDS = some ⟨.type "tuple", od_KINDS, .seq #[.str "rest" t0_KINDS, .str "ranges" t1_KINDS] ns_KINDS, sl_KINDS⟩)
    {t_GREATEST_SIZE : Tok} (a_GREATEST_SIZE : PySem.W.nsIn K mainGlobals "GREATEST_SIZE" = some (some (.int 10000000000000000000000000000000000000000 t_GREATEST_SIZE)))
    {t_GREATEST_OF_COUNTS : Tok} (a_GREATEST_OF_COUNTS : PySem.W.nsIn K mainGlobals "GREATEST_OF_COUNTS" = some (some (.int 4 t_GREATEST_OF_COUNTS)))
    (ag_LaneError : PySem.W.nsIn K mainGlobals "LaneError" = some (some (.ref C_LaneError)))
    (ax_LaneError : PySem.W.excIn K C_LaneError [.type "ValueError", .type "Exception", .type "BaseException", .type "object"] "ValueError.__new__" = true)
    (ak_LaneError : PySem.W.keepIn K (.ref C_LaneError) = true) (ap_LaneError : PySem.W.subIn K (.ref C_LaneError) (.type "BaseException") = some true) (at_LaneError : PySem.W.typeIn K (.ref C_LaneError) = some (.type "type")) (ai_LaneError : PySem.W.isClsIn K C_LaneError = true)
    (ag_BadKind : PySem.W.nsIn K mainGlobals "BadKind" = some (some (.ref C_BadKind)))
    (ax_BadKind : PySem.W.excIn K C_BadKind [.type "ValueError", .type "Exception", .type "BaseException", .type "object"] "ValueError.__new__" = true)
    (ak_BadKind : PySem.W.keepIn K (.ref C_BadKind) = true) (ap_BadKind : PySem.W.subIn K (.ref C_BadKind) (.type "BaseException") = some true) (at_BadKind : PySem.W.typeIn K (.ref C_BadKind) = some (.type "type")) (ai_BadKind : PySem.W.isClsIn K C_BadKind = true)
    (ag_BadSize : PySem.W.nsIn K mainGlobals "BadSize" = some (some (.ref C_BadSize)))
    (ax_BadSize : PySem.W.excIn K C_BadSize [.type "ValueError", .type "Exception", .type "BaseException", .type "object"] "ValueError.__new__" = true)
    (ak_BadSize : PySem.W.keepIn K (.ref C_BadSize) = true) (ap_BadSize : PySem.W.subIn K (.ref C_BadSize) (.type "BaseException") = some true) (at_BadSize : PySem.W.typeIn K (.ref C_BadSize) = some (.type "type")) (ai_BadSize : PySem.W.isClsIn K C_BadSize = true)
    (ag_BadCounts : PySem.W.nsIn K mainGlobals "BadCounts" = some (some (.ref C_BadCounts)))
    (ax_BadCounts : PySem.W.excIn K C_BadCounts [.type "ValueError", .type "Exception", .type "BaseException", .type "object"] "ValueError.__new__" = true)
    (ak_BadCounts : PySem.W.keepIn K (.ref C_BadCounts) = true) (ap_BadCounts : PySem.W.subIn K (.ref C_BadCounts) (.type "BaseException") = some true) (at_BadCounts : PySem.W.typeIn K (.ref C_BadCounts) = some (.type "type")) (ai_BadCounts : PySem.W.isClsIn K C_BadCounts = true)
    (q_BadKind_BadKind : PySem.W.subIn K (.ref C_BadKind) (.ref C_BadKind) = some true)
    (q_BadKind_BadSize : PySem.W.subIn K (.ref C_BadKind) (.ref C_BadSize) = some false)
    (q_BadKind_BadCounts : PySem.W.subIn K (.ref C_BadKind) (.ref C_BadCounts) = some false)
    (q_BadKind_LaneError : PySem.W.subIn K (.ref C_BadKind) (.ref C_LaneError) = some true)
    (q_BadSize_BadKind : PySem.W.subIn K (.ref C_BadSize) (.ref C_BadKind) = some false)
    (q_BadSize_BadSize : PySem.W.subIn K (.ref C_BadSize) (.ref C_BadSize) = some true)
    (q_BadSize_BadCounts : PySem.W.subIn K (.ref C_BadSize) (.ref C_BadCounts) = some false)
    (q_BadSize_LaneError : PySem.W.subIn K (.ref C_BadSize) (.ref C_LaneError) = some true)
    (q_BadCounts_BadKind : PySem.W.subIn K (.ref C_BadCounts) (.ref C_BadKind) = some false)
    (q_BadCounts_BadSize : PySem.W.subIn K (.ref C_BadCounts) (.ref C_BadSize) = some false)
    (q_BadCounts_BadCounts : PySem.W.subIn K (.ref C_BadCounts) (.ref C_BadCounts) = some true)
    (q_BadCounts_LaneError : PySem.W.subIn K (.ref C_BadCounts) (.ref C_LaneError) = some true)
    (hn : PySem.W.specialIn K (.builtin "object.__class__") "__get__" = some (some (.builtin "getset_descriptor.__get__"))) (ht : PySem.W.takesIn K (.builtin "object.__class__") = some true)
    (e1_BadKind : PySem.W.findIn K (.ref C_BadKind) "__getattribute__" = some (some (.builtin "BaseException.__getattribute__"))) (e2_BadKind : PySem.W.findIn K (.ref C_BadKind) "__getattr__" = some none) (e3_BadKind : PySem.W.hasDictIn K C_BadKind = true)
    (e4_BadKind : PySem.W.findIn K (.ref C_BadKind) "__class__" = some (some (.builtin "object.__class__"))) (e5_BadKind : PySem.W.mroIn K C_BadKind (.type "object") = some true) (v_BadKind : PySem.W.subIn K (.ref C_BadKind) (.type "ValueError") = some true)
    (e1_BadSize : PySem.W.findIn K (.ref C_BadSize) "__getattribute__" = some (some (.builtin "BaseException.__getattribute__"))) (e2_BadSize : PySem.W.findIn K (.ref C_BadSize) "__getattr__" = some none) (e3_BadSize : PySem.W.hasDictIn K C_BadSize = true)
    (e4_BadSize : PySem.W.findIn K (.ref C_BadSize) "__class__" = some (some (.builtin "object.__class__"))) (e5_BadSize : PySem.W.mroIn K C_BadSize (.type "object") = some true) (v_BadSize : PySem.W.subIn K (.ref C_BadSize) (.type "ValueError") = some true)
    (e1_BadCounts : PySem.W.findIn K (.ref C_BadCounts) "__getattribute__" = some (some (.builtin "BaseException.__getattribute__"))) (e2_BadCounts : PySem.W.findIn K (.ref C_BadCounts) "__getattr__" = some none) (e3_BadCounts : PySem.W.hasDictIn K C_BadCounts = true)
    (e4_BadCounts : PySem.W.findIn K (.ref C_BadCounts) "__class__" = some (some (.builtin "object.__class__"))) (e5_BadCounts : PySem.W.mroIn K C_BadCounts (.type "object") = some true) (v_BadCounts : PySem.W.subIn K (.ref C_BadCounts) (.type "ValueError") = some true) :
    ∃ fd : FuncData, (∀ (s : Shared) (v : Value), BindsTo s fd ⟨[v], []⟩ [("_law_script", v)]) ∧ ∀ base : Heap, K.In base → base.Ns mainGlobals mg → FnOk P w K mg base CX0 6 fa fd ["_law_script"] (spLaw K) := by
  have e := hfa.symm.trans (PySem.W.mg_of X G a_law)
  cases e
  have F_is_whole := fun_mk (st := s_is_whole) l_is_whole c_is_whole k_is_whole
  have b_is_whole := F_is_whole.binds (ps := ["thing", "low", "high"]) fun _ _ _ _ _ _ us hl => match us, hl with | [_, _, _], _ => rfl
  have F_is_word := fun_mk (st := s_is_word) l_is_word c_is_word k_is_word
  have b_is_word := F_is_word.binds (ps := ["thing", "words"]) fun _ _ _ _ _ _ us hl => match us, hl with | [_, _], _ => rfl
  have F_is_row := fun_mk (st := s_is_row) l_is_row c_is_row k_is_row
  have b_is_row := F_is_row.binds (ps := ["thing", "low", "high"]) fun _ _ _ _ _ _ us hl => match us, hl with | [_, _, _], _ => rfl
  have F_all_courses := fun_mk (st := s_all_courses) l_all_courses c_all_courses k_all_courses
  have b_all_courses := F_all_courses.binds (ps := ["counts"]) fun _ _ _ _ _ _ us hl => match us, hl with | [_], _ => rfl
  have F_small_courses := fun_mk (st := s_small_courses) l_small_courses c_small_courses k_small_courses
  have b_small_courses := F_small_courses.binds (ps := ["counts"]) fun _ _ _ _ _ _ us hl => match us, hl with | [_], _ => rfl
  have F_course_shares := fun_mk (st := s_course_shares) l_course_shares c_course_shares k_course_shares
  have b_course_shares := F_course_shares.binds (ps := ["kind", "counts", "size"]) fun _ _ _ _ _ _ us hl => match us, hl with | [_, _, _], _ => rfl
  have F_is_counts := fun_mk (st := s_is_counts) l_is_counts c_is_counts k_is_counts
  have b_is_counts := F_is_counts.binds (ps := ["thing"]) fun _ _ _ _ _ _ us hl => match us, hl with | [_], _ => rfl
  have F_check_kind := fun_mk (st := s_check_kind) l_check_kind c_check_kind k_check_kind
  have b_check_kind := F_check_kind.binds (ps := ["kind"]) fun _ _ _ _ _ _ us hl => match us, hl with | [_], _ => rfl
  have F_check_size := fun_mk (st := s_check_size) l_check_size c_check_size k_check_size
  have b_check_size := F_check_size.binds (ps := ["size"]) fun _ _ _ _ _ _ us hl => match us, hl with | [_], _ => rfl
  have F_check_counts := fun_mk (st := s_check_counts) l_check_counts c_check_counts k_check_counts
  have b_check_counts := F_check_counts.binds (ps := ["counts"]) fun _ _ _ _ _ _ us hl => match us, hl with | [_], _ => rfl
  have F_lane_at := fun_mk (st := s_lane_at) l_lane_at c_lane_at k_lane_at
  have b_lane_at := F_lane_at.binds (ps := ["kind", "count", "mark", "size"]) fun _ _ _ _ _ _ us hl => match us, hl with | [_, _, _, _], _ => rfl
  have F_lane_start := fun_mk (st := s_lane_start) l_lane_start c_lane_start k_lane_start
  have b_lane_start := F_lane_start.binds (ps := ["lane", "count", "size"]) fun _ _ _ _ _ _ us hl => match us, hl with | [_, _, _], _ => rfl
  have F_courses_of := fun_mk (st := s_courses_of) l_courses_of c_courses_of k_courses_of
  have b_courses_of := F_courses_of.binds (ps := ["counts"]) fun _ _ _ _ _ _ us hl => match us, hl with | [_], _ => rfl
  have F_renamings_of := fun_mk (st := s_renamings_of) l_renamings_of c_renamings_of k_renamings_of
  have b_renamings_of := F_renamings_of.binds (ps := ["counts"]) fun _ _ _ _ _ _ us hl => match us, hl with | [_], _ => rfl
  have F_renamed := fun_mk (st := s_renamed) l_renamed c_renamed k_renamed
  have b_renamed := F_renamed.binds (ps := ["course", "lanes"]) fun _ _ _ _ _ _ us hl => match us, hl with | [_, _], _ => rfl
  have F_least_alike := fun_mk (st := s_least_alike) l_least_alike c_least_alike k_least_alike
  have b_least_alike := F_least_alike.binds (ps := ["course", "counts"]) fun _ _ _ _ _ _ us hl => match us, hl with | [_, _], _ => rfl
  have F_shares_by_rest := fun_mk (st := s_shares_by_rest) l_shares_by_rest c_shares_by_rest k_shares_by_rest
  have b_shares_by_rest := F_shares_by_rest.binds (ps := ["counts", "size"]) fun _ _ _ _ _ _ us hl => match us, hl with | [_, _], _ => rfl
  have F_shares_by_ranges := fun_mk (st := s_shares_by_ranges) l_shares_by_ranges c_shares_by_ranges k_shares_by_ranges
  have b_shares_by_ranges := F_shares_by_ranges.binds (ps := ["counts", "size"]) fun _ _ _ _ _ _ us hl => match us, hl with | [_, _], _ => rfl
  have F_course_of := fun_mk (st := s_course_of) l_course_of c_course_of k_course_of
  have b_course_of := F_course_of.binds (ps := ["kind", "counts", "mark", "size"]) fun _ _ _ _ _ _ us hl => match us, hl with | [_, _, _, _], _ => rfl
  have F_period_of := fun_mk (st := s_period_of) l_period_of c_period_of k_period_of
  have b_period_of := F_period_of.binds (ps := ["counts"]) fun _ _ _ _ _ _ us hl => match us, hl with | [_], _ => rfl
  have F_law_source := fun_mk (st := s_law_source) l_law_source c_law_source k_law_source
  have b_law_source := F_law_source.binds (ps := ["_law_script"]) fun _ _ _ _ _ _ us hl => match us, hl with | [_], _ => rfl
  have F_law_draw := fun_mk (st := s_law_draw) l_law_draw c_law_draw k_law_draw
  have b_law_draw := F_law_draw.binds (ps := ["_law_source_here", "_law_limit"]) fun _ _ _ _ _ _ us hl => match us, hl with | [_, _], _ => rfl
  have F_law_integer := fun_mk (st := s_law_integer) l_law_integer c_law_integer k_law_integer
  have b_law_integer := F_law_integer.binds (ps := ["_law_found"]) fun _ _ _ _ _ _ us hl => match us, hl with | [_], _ => rfl
  have F_law_told := fun_mk (st := s_law_told) l_law_told c_law_told k_law_told
  have b_law_told := F_law_told.binds (ps := ["_law_word", "_law_counts", "_law_kind", "_law_size"]) fun _ _ _ _ _ _ us hl => match us, hl with | [_, _, _, _], _ => rfl
  have F_law_wrong := fun_mk (st := s_law_wrong) l_law_wrong c_law_wrong k_law_wrong
  have b_law_wrong := F_law_wrong.binds (ps := ["_law_counts", "_law_which", "_law_at"]) fun _ _ _ _ _ _ us hl => match us, hl with | [_, _, _], _ => rfl
  have F_law := fun_mk (st := s_law) l_law c_law k_law
  have b_law := F_law.binds (ps := ["_law_script"]) fun _ _ _ _ _ _ us hl => match us, hl with | [_], _ => rfl
  exact ⟨PySem.W.fnOf "law" "law" (defArgs s_law) (defBody s_law) (defScope s_law) .none kV_law dc_law pm_law an_law cd_law ct_law, fun s v => .of_eq rfl, fun base _ _ => ok_law (P := P) (w := w) (mg := mg) (base := base) ({ a_is_whole := _, d_is_whole := _, F_is_whole := F_is_whole, g_is_whole := PySem.W.mg_of X G a_is_whole, b_is_whole := b_is_whole, a_is_word := _, d_is_word := _, F_is_word := F_is_word, g_is_word := PySem.W.mg_of X G a_is_word, b_is_word := b_is_word, a_is_row := _, d_is_row := _, F_is_row := F_is_row, g_is_row := PySem.W.mg_of X G a_is_row, b_is_row := b_is_row, a_all_courses := _, d_all_courses := _, F_all_courses := F_all_courses, g_all_courses := PySem.W.mg_of X G a_all_courses, b_all_courses := b_all_courses, a_small_courses := _, d_small_courses := _, F_small_courses := F_small_courses, g_small_courses := PySem.W.mg_of X G a_small_courses, b_small_courses := b_small_courses, a_course_shares := _, d_course_shares := _, F_course_shares := F_course_shares, g_course_shares := PySem.W.mg_of X G a_course_shares, b_course_shares := b_course_shares, a_is_counts := _, d_is_counts := _, F_is_counts := F_is_counts, g_is_counts := PySem.W.mg_of X G a_is_counts, b_is_counts := b_is_counts, a_check_kind := _, d_check_kind := _, F_check_kind := F_check_kind, g_check_kind := PySem.W.mg_of X G a_check_kind, b_check_kind := b_check_kind, a_check_size := _, d_check_size := _, F_check_size := F_check_size, g_check_size := PySem.W.mg_of X G a_check_size, b_check_size := b_check_size, a_check_counts := _, d_check_counts := _, F_check_counts := F_check_counts, g_check_counts := PySem.W.mg_of X G a_check_counts, b_check_counts := b_check_counts, a_lane_at := _, d_lane_at := _, F_lane_at := F_lane_at, g_lane_at := PySem.W.mg_of X G a_lane_at, b_lane_at := b_lane_at, a_lane_start := _, d_lane_start := _, F_lane_start := F_lane_start, g_lane_start := PySem.W.mg_of X G a_lane_start, b_lane_start := b_lane_start, a_courses_of := _, d_courses_of := _, F_courses_of := F_courses_of, g_courses_of := PySem.W.mg_of X G a_courses_of, b_courses_of := b_courses_of, a_renamings_of := _, d_renamings_of := _, F_renamings_of := F_renamings_of, g_renamings_of := PySem.W.mg_of X G a_renamings_of, b_renamings_of := b_renamings_of, a_renamed := _, d_renamed := _, F_renamed := F_renamed, g_renamed := PySem.W.mg_of X G a_renamed, b_renamed := b_renamed, a_least_alike := _, d_least_alike := _, F_least_alike := F_least_alike, g_least_alike := PySem.W.mg_of X G a_least_alike, b_least_alike := b_least_alike, a_shares_by_rest := _, d_shares_by_rest := _, F_shares_by_rest := F_shares_by_rest, g_shares_by_rest := PySem.W.mg_of X G a_shares_by_rest, b_shares_by_rest := b_shares_by_rest, a_shares_by_ranges := _, d_shares_by_ranges := _, F_shares_by_ranges := F_shares_by_ranges, g_shares_by_ranges := PySem.W.mg_of X G a_shares_by_ranges, b_shares_by_ranges := b_shares_by_ranges, a_course_of := _, d_course_of := _, F_course_of := F_course_of, g_course_of := PySem.W.mg_of X G a_course_of, b_course_of := b_course_of, a_period_of := _, d_period_of := _, F_period_of := F_period_of, g_period_of := PySem.W.mg_of X G a_period_of, b_period_of := b_period_of, a_law_source := _, d_law_source := _, F_law_source := F_law_source, g_law_source := PySem.W.mg_of X G a_law_source, b_law_source := b_law_source, a_law_draw := _, d_law_draw := _, F_law_draw := F_law_draw, g_law_draw := PySem.W.mg_of X G a_law_draw, b_law_draw := b_law_draw, a_law_integer := _, d_law_integer := _, F_law_integer := F_law_integer, g_law_integer := PySem.W.mg_of X G a_law_integer, b_law_integer := b_law_integer, a_law_told := _, d_law_told := _, F_law_told := F_law_told, g_law_told := PySem.W.mg_of X G a_law_told, b_law_told := b_law_told, a_law_wrong := _, d_law_wrong := _, F_law_wrong := F_law_wrong, g_law_wrong := PySem.W.mg_of X G a_law_wrong, b_law_wrong := b_law_wrong, a_law := _, d_law := _, F_law := F_law, g_law := PySem.W.mg_of X G a_law, b_law := b_law, z_all := PySem.W.mg_none_of X G z_all, z_bool := PySem.W.mg_none_of X G z_bool, z_int := PySem.W.mg_none_of X G z_int, z_isinstance := PySem.W.mg_none_of X G z_isinstance, z_len := PySem.W.mg_none_of X G z_len, z_list := PySem.W.mg_none_of X G z_list, z_max := PySem.W.mg_none_of X G z_max, z_min := PySem.W.mg_none_of X G z_min, z_range := PySem.W.mg_none_of X G z_range, z_sorted := PySem.W.mg_none_of X G z_sorted, z_str := PySem.W.mg_none_of X G z_str, z_tuple := PySem.W.mg_none_of X G z_tuple, z_zip := PySem.W.mg_none_of X G z_zip, g_lcm := PySem.W.mg_of X G a_lcm, c_KINDS := _, g_KINDS := PySem.W.mg_of X G a_KINDS, r_KINDS := rfl, q_KINDS := fun _ => .inr ⟨_, _, _, l_KINDS, rfl, rfl, by show 2 ≤ sizeLine; decide, .cons ⟨_, rfl⟩ (.cons ⟨_, rfl⟩ (.nil))⟩, u_GREATEST_SIZE := _, g_GREATEST_SIZE := PySem.W.mg_of X G a_GREATEST_SIZE, r_GREATEST_SIZE := ⟨_, rfl⟩, u_GREATEST_OF_COUNTS := _, g_GREATEST_OF_COUNTS := PySem.W.mg_of X G a_GREATEST_OF_COUNTS, r_GREATEST_OF_COUNTS := ⟨_, rfl⟩, C_LaneError := _, g_LaneError := PySem.W.mg_of X G ag_LaneError, x_LaneError := ax_LaneError, k_LaneError := ak_LaneError, p_LaneError := ap_LaneError, t_LaneError := at_LaneError, i_LaneError := ai_LaneError, C_BadKind := _, g_BadKind := PySem.W.mg_of X G ag_BadKind, x_BadKind := ax_BadKind, k_BadKind := ak_BadKind, p_BadKind := ap_BadKind, t_BadKind := at_BadKind, i_BadKind := ai_BadKind, C_BadSize := _, g_BadSize := PySem.W.mg_of X G ag_BadSize, x_BadSize := ax_BadSize, k_BadSize := ak_BadSize, p_BadSize := ap_BadSize, t_BadSize := at_BadSize, i_BadSize := ai_BadSize, C_BadCounts := _, g_BadCounts := PySem.W.mg_of X G ag_BadCounts, x_BadCounts := ax_BadCounts, k_BadCounts := ak_BadCounts, p_BadCounts := ap_BadCounts, t_BadCounts := at_BadCounts, i_BadCounts := ai_BadCounts, q_BadKind_BadKind := q_BadKind_BadKind, q_BadKind_BadSize := q_BadKind_BadSize, q_BadKind_BadCounts := q_BadKind_BadCounts, q_BadKind_LaneError := q_BadKind_LaneError, q_BadSize_BadKind := q_BadSize_BadKind, q_BadSize_BadSize := q_BadSize_BadSize, q_BadSize_BadCounts := q_BadSize_BadCounts, q_BadSize_LaneError := q_BadSize_LaneError, q_BadCounts_BadKind := q_BadCounts_BadKind, q_BadCounts_BadSize := q_BadCounts_BadSize, q_BadCounts_BadCounts := q_BadCounts_BadCounts, q_BadCounts_LaneError := q_BadCounts_LaneError, e_BadKind := ⟨e1_BadKind, e2_BadKind, ap_BadKind, e3_BadKind, e4_BadKind, hn, ht, e5_BadKind⟩, v_BadKind := v_BadKind, e_BadSize := ⟨e1_BadSize, e2_BadSize, ap_BadSize, e3_BadSize, e4_BadSize, hn, ht, e5_BadSize⟩, v_BadSize := v_BadSize, e_BadCounts := ⟨e1_BadCounts, e2_BadCounts, ap_BadCounts, e3_BadCounts, e4_BadCounts, hn, ht, e5_BadCounts⟩, v_BadCounts := v_BadCounts } : Txt K mg)⟩
end K05
open PySem PySem.W PyProof.Rows
set_option maxRecDepth 100000 in
set_option maxHeartbeats 0 in
theorem PySem.Challenge.cw_lanescounted_k05_courses_of_counts_holds : PySem.Challenge.rw_lanescounted_k05_courses_of_counts.Holds := by
  w_on; o_law; k_head; (case hw => w_witness2)
  k_fill
  refine L2.walk_ofB (l := PySem.Challenge.rw_lanescounted_k05_courses_of_counts) (n := 63) (k := 6) (x := "_law_script") (CX := fun w => L2.CX0) (sp := fun w => K05.spLaw _) rfl (by decide) rfl ⟨rfl, by decide, by decide⟩ (fun w h Y => PySem.W.kIn_of Y) ?F (fun _ _ a ns hl hb _ hS => ⟨a, ns, rfl, hS, hl, hb, fun _ => rfl⟩) (fun _ _ _ _ _ h => h)
  case F =>
    intro w mg fa h KX G hmg
    refine' K05.all_mk KX G hmg ?a_is_whole ?l_is_whole ?c_is_whole ?k_is_whole ?a_is_word ?l_is_word ?c_is_word ?k_is_word ?a_is_row ?l_is_row ?c_is_row ?k_is_row ?a_all_courses ?l_all_courses ?c_all_courses ?k_all_courses ?a_small_courses ?l_small_courses ?c_small_courses ?k_small_courses ?a_course_shares ?l_course_shares ?c_course_shares ?k_course_shares ?a_is_counts ?l_is_counts ?c_is_counts ?k_is_counts ?a_check_kind ?l_check_kind ?c_check_kind ?k_check_kind ?a_check_size ?l_check_size ?c_check_size ?k_check_size ?a_check_counts ?l_check_counts ?c_check_counts ?k_check_counts ?a_lane_at ?l_lane_at ?c_lane_at ?k_lane_at ?a_lane_start ?l_lane_start ?c_lane_start ?k_lane_start ?a_courses_of ?l_courses_of ?c_courses_of ?k_courses_of ?a_renamings_of ?l_renamings_of ?c_renamings_of ?k_renamings_of ?a_renamed ?l_renamed ?c_renamed ?k_renamed ?a_least_alike ?l_least_alike ?c_least_alike ?k_least_alike ?a_shares_by_rest ?l_shares_by_rest ?c_shares_by_rest ?k_shares_by_rest ?a_shares_by_ranges ?l_shares_by_ranges ?c_shares_by_ranges ?k_shares_by_ranges ?a_course_of ?l_course_of ?c_course_of ?k_course_of ?a_period_of ?l_period_of ?c_period_of ?k_period_of ?a_law_source ?l_law_source ?c_law_source ?k_law_source ?a_law_draw ?l_law_draw ?c_law_draw ?k_law_draw ?a_law_integer ?l_law_integer ?c_law_integer ?k_law_integer ?a_law_told ?l_law_told ?c_law_told ?k_law_told ?a_law_wrong ?l_law_wrong ?c_law_wrong ?k_law_wrong ?a_law ?l_law ?c_law ?k_law ?z_all ?z_bool ?z_int ?z_isinstance ?z_len ?z_list ?z_max ?z_min ?z_range ?z_sorted ?z_str ?z_tuple ?z_zip ?a_lcm ?a_KINDS ?l_KINDS ?a_GREATEST_SIZE ?a_GREATEST_OF_COUNTS ?ag_LaneError ?ax_LaneError ?ak_LaneError ?ap_LaneError ?at_LaneError ?ai_LaneError ?ag_BadKind ?ax_BadKind ?ak_BadKind ?ap_BadKind ?at_BadKind ?ai_BadKind ?ag_BadSize ?ax_BadSize ?ak_BadSize ?ap_BadSize ?at_BadSize ?ai_BadSize ?ag_BadCounts ?ax_BadCounts ?ak_BadCounts ?ap_BadCounts ?at_BadCounts ?ai_BadCounts ?q_BadKind_BadKind ?q_BadKind_BadSize ?q_BadKind_BadCounts ?q_BadKind_LaneError ?q_BadSize_BadKind ?q_BadSize_BadSize ?q_BadSize_BadCounts ?q_BadSize_LaneError ?q_BadCounts_BadKind ?q_BadCounts_BadSize ?q_BadCounts_BadCounts ?q_BadCounts_LaneError ?hn ?ht ?e1_BadKind ?e2_BadKind ?e3_BadKind ?e4_BadKind ?e5_BadKind ?v_BadKind ?e1_BadSize ?e2_BadSize ?e3_BadSize ?e4_BadSize ?e5_BadSize ?v_BadSize ?e1_BadCounts ?e2_BadCounts ?e3_BadCounts ?e4_BadCounts ?e5_BadCounts ?v_BadCounts
    (case a_is_whole => k_is)
    (case l_is_whole => k_is)
    (case c_is_whole => k_is)
    (case k_is_whole => k_is)
    (case a_is_word => k_is)
    (case l_is_word => k_is)
    (case c_is_word => k_is)
    (case k_is_word => k_is)
    (case a_is_row => k_is)
    (case l_is_row => k_is)
    (case c_is_row => k_is)
    (case k_is_row => k_is)
    (case a_all_courses => k_is)
    (case l_all_courses => k_is)
    (case c_all_courses => k_is)
    (case k_all_courses => k_is)
    (case a_small_courses => k_is)
    (case l_small_courses => k_is)
    (case c_small_courses => k_is)
    (case k_small_courses => k_is)
    (case a_course_shares => k_is)
    (case l_course_shares => k_is)
    (case c_course_shares => k_is)
    (case k_course_shares => k_is)
    (case a_is_counts => k_is)
    (case l_is_counts => k_is)
    (case c_is_counts => k_is)
    (case k_is_counts => k_is)
    (case a_check_kind => k_is)
    (case l_check_kind => k_is)
    (case c_check_kind => k_is)
    (case k_check_kind => k_is)
    (case a_check_size => k_is)
    (case l_check_size => k_is)
    (case c_check_size => k_is)
    (case k_check_size => k_is)
    (case a_check_counts => k_is)
    (case l_check_counts => k_is)
    (case c_check_counts => k_is)
    (case k_check_counts => k_is)
    (case a_lane_at => k_is)
    (case l_lane_at => k_is)
    (case c_lane_at => k_is)
    (case k_lane_at => k_is)
    (case a_lane_start => k_is)
    (case l_lane_start => k_is)
    (case c_lane_start => k_is)
    (case k_lane_start => k_is)
    (case a_courses_of => k_is)
    (case l_courses_of => k_is)
    (case c_courses_of => k_is)
    (case k_courses_of => k_is)
    (case a_renamings_of => k_is)
    (case l_renamings_of => k_is)
    (case c_renamings_of => k_is)
    (case k_renamings_of => k_is)
    (case a_renamed => k_is)
    (case l_renamed => k_is)
    (case c_renamed => k_is)
    (case k_renamed => k_is)
    (case a_least_alike => k_is)
    (case l_least_alike => k_is)
    (case c_least_alike => k_is)
    (case k_least_alike => k_is)
    (case a_shares_by_rest => k_is)
    (case l_shares_by_rest => k_is)
    (case c_shares_by_rest => k_is)
    (case k_shares_by_rest => k_is)
    (case a_shares_by_ranges => k_is)
    (case l_shares_by_ranges => k_is)
    (case c_shares_by_ranges => k_is)
    (case k_shares_by_ranges => k_is)
    (case a_course_of => k_is)
    (case l_course_of => k_is)
    (case c_course_of => k_is)
    (case k_course_of => k_is)
    (case a_period_of => k_is)
    (case l_period_of => k_is)
    (case c_period_of => k_is)
    (case k_period_of => k_is)
    (case a_law_source => k_is)
    (case l_law_source => k_is)
    (case c_law_source => k_is)
    (case k_law_source => k_is)
    (case a_law_draw => k_is)
    (case l_law_draw => k_is)
    (case c_law_draw => k_is)
    (case k_law_draw => k_is)
    (case a_law_integer => k_is)
    (case l_law_integer => k_is)
    (case c_law_integer => k_is)
    (case k_law_integer => k_is)
    (case a_law_told => k_is)
    (case l_law_told => k_is)
    (case c_law_told => k_is)
    (case k_law_told => k_is)
    (case a_law_wrong => k_is)
    (case l_law_wrong => k_is)
    (case c_law_wrong => k_is)
    (case k_law_wrong => k_is)
    (case a_law => k_is)
    (case l_law => k_is)
    (case c_law => k_is)
    (case k_law => k_is)
    (case z_all => k_is)
    (case z_bool => k_is)
    (case z_int => k_is)
    (case z_isinstance => k_is)
    (case z_len => k_is)
    (case z_list => k_is)
    (case z_max => k_is)
    (case z_min => k_is)
    (case z_range => k_is)
    (case z_sorted => k_is)
    (case z_str => k_is)
    (case z_tuple => k_is)
    (case z_zip => k_is)
    (case a_lcm => k_is)
    (case a_KINDS => k_is)
    (case l_KINDS => k_is)
    (case a_GREATEST_SIZE => k_is)
    (case a_GREATEST_OF_COUNTS => k_is)
    (case ag_LaneError => k_is)
    (case ax_LaneError => k_exc)
    (case ak_LaneError => k_is)
    (case ap_LaneError => k_is)
    (case at_LaneError => k_is)
    (case ai_LaneError => k_is)
    (case ag_BadKind => k_is)
    (case ax_BadKind => k_exc)
    (case ak_BadKind => k_is)
    (case ap_BadKind => k_is)
    (case at_BadKind => k_is)
    (case ai_BadKind => k_is)
    (case ag_BadSize => k_is)
    (case ax_BadSize => k_exc)
    (case ak_BadSize => k_is)
    (case ap_BadSize => k_is)
    (case at_BadSize => k_is)
    (case ai_BadSize => k_is)
    (case ag_BadCounts => k_is)
    (case ax_BadCounts => k_exc)
    (case ak_BadCounts => k_is)
    (case ap_BadCounts => k_is)
    (case at_BadCounts => k_is)
    (case ai_BadCounts => k_is)
    (case q_BadKind_BadKind => k_is)
    (case q_BadKind_BadSize => k_is)
    (case q_BadKind_BadCounts => k_is)
    (case q_BadKind_LaneError => k_is)
    (case q_BadSize_BadKind => k_is)
    (case q_BadSize_BadSize => k_is)
    (case q_BadSize_BadCounts => k_is)
    (case q_BadSize_LaneError => k_is)
    (case q_BadCounts_BadKind => k_is)
    (case q_BadCounts_BadSize => k_is)
    (case q_BadCounts_BadCounts => k_is)
    (case q_BadCounts_LaneError => k_is)
    (case hn => k_is)
    (case ht => k_is)
    (case e1_BadKind => k_is)
    (case e2_BadKind => k_is)
    (case e3_BadKind => k_is)
    (case e4_BadKind => k_is)
    (case e5_BadKind => k_is)
    (case v_BadKind => k_is)
    (case e1_BadSize => k_is)
    (case e2_BadSize => k_is)
    (case e3_BadSize => k_is)
    (case e4_BadSize => k_is)
    (case e5_BadSize => k_is)
    (case v_BadSize => k_is)
    (case e1_BadCounts => k_is)
    (case e2_BadCounts => k_is)
    (case e3_BadCounts => k_is)
    (case e4_BadCounts => k_is)
    (case e5_BadCounts => k_is)
    (case v_BadCounts => k_is)
