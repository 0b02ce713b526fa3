import PyProof.Rows.All
import Wide.All
import OpenK.AllK
import Wide.FinOn
import PySem.Challenge.RW_lanescounted_k48_fences_read
import HandS.ForMost
import HandS.ForExc
import HandS.Wide
import HandS.IsInst
import HandS.EndBits
import HandS.Small
import HandS.FStr
import HandS.Gcd
import HandS.ExcIs
import HandS.TryMany
import HandS.TupAny
import HandS.Zip
import HandS.TupMul
import HandS.Conv
import KE.DataFind
import KE.DataMinMax
import KE.SortData
import HandS.Deep
import KE.DataCmp
import HandS.Strs
import HandS.SetBool
import HandS.SetFor
import KE.GoesEnum
import HandS.SortKw
import HandS.Star
import HandS.HeadHook3
import HandS.CallLocal
import HandS.ExcInit
import HandS.ExcValue
import HandS.ExcField
import KE.KExcIs
import KE.DataEq
import HandS.Flow
import KE.KIndexOf
import HandS.TryOnly
set_option Elab.async false
set_option linter.all false
set_option maxRecDepth 100000
set_option maxHeartbeats 4000000
namespace Lc
open PySem PySem.Spec PyProof.Rows L2
/-! ### great ints -/
/-- two factors of together less than a hundred million bits -/
def CMulX (i j : Int) : Prop := i.natAbs.log2 + j.natAbs.log2 < 100000000
theorem intBits_le (x : Int) : Builtin.Int.intBits x ≤ x.natAbs.log2 + 1 := by
  unfold Builtin.Int.intBits; split <;> omega
theorem CMulX.ok {i j : Int} (h : CMulX i j) : IntMulOk i j := by
  have a := intBits_le i
  have b := intBits_le j
  unfold CMulX at h
  intro z
  have y := (Bool.and_eq_true _ _ ▸ z).2
  unfold Builtin.Int.intTooBig at y
  have x := of_decide_eq_true y
  have l : bitsLine = 134217728 := by decide
  omega
theorem op_mulX {X : Cx} : OpR X (binaryOp .Mult) (rI CMulX fun i j => .int (i * j)) := opI fun _ _ _ _ _ _ _ hc q => mul_int q hc.ok
/-- few bits -/
def Few (i : Int) : Prop := i.natAbs.log2 ≤ 2000000
theorem few_of {i : Int} (h : i.natAbs < 2 ^ 240) : Few i := by
  have := PySem.Flt.log2_lt_of (n := i.natAbs) (k := 240) (by omega) h
  unfold Few; omega
theorem few_le {i : Int} {b : Int} (h0 : 0 ≤ i) (h : i ≤ b) (hb : b.natAbs < 2 ^ 240) : Few i := few_of (Nat.lt_of_le_of_lt (by omega) hb)
theorem mulX {i j : Int} (h : Few i) (h' : Few j) : CMulX i j := by unfold CMulX; unfold Few at h h'; omega
theorem divX {i j : Int} (h : 0 < j) (hb : j.natAbs < 2 ^ 240) : CDivW i j := wide_div (b := 240) h hb (by decide) (by decide)
theorem log2_mono {a b : Nat} (h : a ≤ b) : a.log2 ≤ b.log2 := by
  rcases Nat.eq_zero_or_pos a with h0 | h0
  · subst h0; simp
  · have hb : b ≠ 0 := by omega
    have h1 : 2 ^ a.log2 ≤ a := Nat.log2_self_le (by omega)
    exact (Nat.le_log2 hb).mpr (by omega)
theorem bits_log {z : Int} (h : Builtin.Int.intBits z ≤ 1048576) : z.natAbs.log2 ≤ 1048576 := by
  unfold Builtin.Int.intBits at h
  split at h
  · rename_i h0; simp_all
  · omega
/-! ### heaps -/
/-- all that was tracked, but for a, is as it was -/
def But (a : Addr) (H H' : Hp) : Prop := ∀ b o, b ≠ a → H b = some o → H' b = some o
theorem But.refl (a : Addr) (H : Hp) : But a H H := fun _ _ _ h => h
theorem But.trans {a : Addr} {H H1 H2 : Hp} (x : But a H H1) (y : But a H1 H2) : But a H H2 := fun b o n h => y b o n (x b o n h)
theorem But.same {a : Addr} {H H1 H2 : Hp} (x : But a H H1) (y : Same H1 H2) : But a H H2 := fun b o n h => y b o (x b o n h)
theorem Same.but {a : Addr} {H H1 : Hp} (y : Same H H1) : But a H H1 := fun b o _ h => y b o h
theorem But.new {a : Addr} {H H1 H2 : Hp} (y : Same H H1) (x : But a H1 H2) : But a H H2 := fun b o n h => x b o n (y b o h)
theorem same_upd {H : Hp} {p : Addr} {o : HO} (h : H p = none) : Same H (upd H p o) := fun b x e => by
  rw [upd_ne (ne_of_none e h)]
  exact e
theorem But.upd {a : Addr} {H H' : Hp} {o : HO} (x : But a H H') : But a H (upd H' a o) := fun b u n h => by
  rw [upd_ne n]
  exact x b u n h
/-! ### statements joined behind an if -/
theorem seq_cut {t u : TS} {D : Ends} {σ : L2.St} {H : Hp} (M : L2.St → Hp → Prop) (h2 : ∀ σ' H', M σ' H' → u D σ' H') (h1 : (∀ σ' H', M σ' H' → u D σ' H') → t { D with nx := u D } σ H) : tSeq t u D σ H := h1 h2
theorem if_cut {c : TT} {t1 t2 u : TS} {D : Ends} {σ : L2.St} {H : Hp} (M : L2.St → Hp → Prop) (h2 : ∀ σ' H', M σ' H' → u D σ' H') (h1 : (∀ σ' H', M σ' H' → u D σ' H') → tIfS c t1 t2 { D with nx := u D } σ H) : tSeq (tIfS c t1 t2) u D σ H := h1 h2
/-! ### the source of draws -/
structure Src (H : Hp) (a : Addr) (n : Nat) : Prop where
  ex : ∃ (l : Addr) (ns : List Int) (x y z : Int), H a = some (.lst [.ref l, .int x, .int y, .int z]) ∧ H l = some (.lst (ns.map V.int)) ∧ (∀ k ∈ ns, k.natAbs.log2 ≤ 1048576) ∧ ns.length ≤ 63 ∧
    0 ≤ x ∧ x.natAbs.log2 ≤ 1048576 ∧ 0 ≤ y ∧ y < 2147483647 ∧ 0 ≤ z ∧ z ≤ (n : Int)
def spDraw : Sp := fun vs H Q _ => ∃ (a : Addr) (n : Nat) (lim : Int), vs = [.ref a, .int lim] ∧ Src H a n ∧ n < 1000000 ∧ 1 ≤ lim ∧ lim ≤ 1000000000000 ∧
  ∀ d H', 0 ≤ d → d < lim → Src H' a (n + 1) → But a H H' → Q (.int d) H'
def spSource (K : PySem.W.Frag) : Sp := fun vs H Q _ => ∃ (a : Addr) (ns : List Int), vs = [.ref a] ∧ SqL K H a (ns.map V.int) ∧ ns.length ≤ 63 ∧ (∀ z ∈ ns, Builtin.Int.intBits z ≤ 1048576) ∧
  ∀ p H', H p = none → Src H' p 0 → Same H H' → Q (.ref p) H'
def spGreat : Sp := fun vs H Q _ => ∃ (a : Addr) (n : Nat) (lim : Int), vs = [.ref a, .int lim] ∧ Src H a n ∧ n + 5 < 1000000 ∧ 1 ≤ lim ∧ lim ≤ 10 ^ 60 ∧
  ∀ d H', 0 ≤ d → d < lim → Src H' a (n + 5) → But a H H' → Q (.int d) H'
/-- what is behind the first if of a draw -/
structure Mid (H0 : Hp) (a : Addr) (n : Nat) (H : Hp) : Prop where
  src : Src H a n
  but : But a H0 H
theorem src_ne {H : Hp} {a b : Addr} {n : Nat} (S : Src H a n) (h : H b = none) : b ≠ a := by
  obtain ⟨l, ns, x, y, z, h1, _⟩ := S.ex
  intro e; subst e; rw [h] at h1; cases h1
theorem Src.le {H : Hp} {a : Addr} {n m : Nat} (S : Src H a n) (h : n ≤ m) : Src H a m := by
  obtain ⟨l, ns, x, y, z, h1, h2, h3, h4, h5, h6, h7, h8, h9, h10⟩ := S.ex
  exact ⟨l, ns, x, y, z, h1, h2, h3, h4, h5, h6, h7, h8, h9, by omega⟩
theorem Src.same {H H' : Hp} {a : Addr} {n : Nat} (S : Src H a n) (k : Same H H') : Src H' a n := by
  obtain ⟨l, ns, x, y, z, h1, h2, h3⟩ := S.ex
  exact ⟨l, ns, x, y, z, k _ _ h1, k _ _ h2, h3⟩
theorem cut1 (l : List V) : cutV l (some 1) none = l.drop 1 := by
  have e1 : HT.sIx l.length 0 (some 1) = min 1 l.length := HT.sIx_nat l.length 0 1
  have e2 : HT.sIx l.length l.length none = l.length := HT.sIx_none ..
  show ((l.drop (HT.sIx l.length 0 (some 1))).take (HT.sIx l.length l.length none - HT.sIx l.length 0 (some 1))) = l.drop 1
  rw [e1, e2]
  match l with
  | [] => rfl
  | a :: r =>
    have e3 : min 1 (a :: r).length = 1 := Nat.min_eq_left (by simp)
    rw [e3]
    exact List.take_of_length_le (by simp)
theorem idiv_log {x j : Int} (h0 : 0 ≤ x) (hj : 1 ≤ j) {k : Nat} (h : x.natAbs.log2 ≤ k) : (x / j).natAbs.log2 ≤ k := by
  have h1 : 0 ≤ x / j := Int.ediv_nonneg h0 (by omega)
  have h2 : x / j ≤ x := Int.ediv_le_self j h0
  have h3 : (x / j).natAbs ≤ x.natAbs := by omega
  exact Nat.le_trans (log2_mono h3) h
def pw9 : Nat → Int
  | 0 => 1
  | n + 1 => pw9 n * 1000000000
theorem pw9_le {i : Nat} (h : i ≤ 5) : pw9 i ≤ 1000000000000000000000000000000000000000000000 := by
  match i, h with
  | 0, _ => decide
  | 1, _ => decide
  | 2, _ => decide
  | 3, _ => decide
  | 4, _ => decide
  | 5, _ => decide
theorem few_bits {k : Int} (h : k.natAbs.log2 ≤ 1048576) : Few k := by unfold Few; omega
theorem ends_true {Q : VK} {b : Bool} {H : Hp} (q : ∀ H', Q (.bl true) H') (h : b = true) : Q (.bl b) H := h ▸ q H
/-! ### rules with the written part by its name (within a comprehension) -/
theorem ixL {X : Cx} (K : PySem.W.Frag) (h : X.K = K := by rfl) : IxR X (rIxL K) := h ▸ ix_list
theorem ixT {X : Cx} (K : PySem.W.Frag) (h : X.K = K := by rfl) : IxR X (rIxT K) := h ▸ ix_tup
/-! ### what an object is -/
inductive Arg (K : PySem.W.Frag) (H : Hp) : V → String → Prop where
  | non : Arg K H .non "NoneType"
  | bl (b : Bool) : Arg K H (.bl b) "bool"
  | int (i : Int) : Arg K H (.int i) "int"
  | str (x : Str) : Arg K H (.str x) "str"
  | lst {a : Addr} {xs : List V} (e : H a = some (.lst xs)) : Arg K H (.ref a) "list"
  | tup {a : Addr} {xs : List V} (e : H a = some (.tup xs)) : Arg K H (.ref a) "tuple"
  | dK {a : Addr} {kvs : List (Key × V)} (e : H a = some (.dK kvs)) : Arg K H (.ref a) "dict"
  | ftup {a : Addr} {o : Obj} {xs : List V} (e : H a = some (.frz o (.tup xs))) : Arg K H (.ref a) "tuple"
def isI : V → Bool
  | .int _ => true | .bl _ => true | _ => false
def isB : V → Bool
  | .bl _ => true | _ => false
def isS : V → Bool
  | .str _ => true | _ => false
section
variable {K : PySem.W.Frag} {H : Hp} {x : V} {n : String}
theorem Arg.ty (h : Arg K H x n) : TyX K H x (.type n) := by
  cases h with
  | non => exact .base .non
  | bl b => exact .base (.bl b)
  | int i => exact .base (.int i)
  | str s => exact .base (.str s)
  | lst e => exact .base (.lst e)
  | tup e => exact .base (.tup e)
  | dK e => exact .base (.dK e)
  | ftup e => exact .fTuple e
theorem Arg.int? (h : Arg K H x n) : PySem.W.kitOne K (.type n) (.type "int") = some (isI x) := by
  cases h <;> first | exact kit_ty (r := true) (by decide +kernel) | exact kit_ty (r := false) (by decide +kernel)
theorem Arg.bool? (h : Arg K H x n) : PySem.W.kitOne K (.type n) (.type "bool") = some (isB x) := by
  cases h <;> first | exact kit_ty (r := true) (by decide +kernel) | exact kit_ty (r := false) (by decide +kernel)
theorem Arg.str? (h : Arg K H x n) : PySem.W.kitOne K (.type n) (.type "str") = some (isS x) := by
  cases h <;> first | exact kit_ty (r := true) (by decide +kernel) | exact kit_ty (r := false) (by decide +kernel)
end
/-- an integer from lo to hi, no bool -/
def wholeV (x : V) (lo hi : Int) : Bool := match x with
  | .int i => decide (lo ≤ i) && decide (i ≤ hi)
  | _ => false
def wordV (x : V) (ws : List Str) : Bool := match x with
  | .str s => decide (s ∈ ws)
  | _ => false
theorem inV_str (s : Str) (ws : List Str) : inV (.str s) (ws.map V.str) = decide (s ∈ ws) := by
  unfold inV
  induction ws with
  | nil => rfl
  | cons w r ih =>
    rw [List.map_cons, List.any_cons, ih]
    show ((w == s) || decide (s ∈ r)) = decide (s ∈ w :: r)
    by_cases e : w = s
    · subst e; simp
    · have e2 : (w == s) = false := beq_eq_false_iff_ne.mpr e
      have e3 : ¬ s = w := fun z => e z.symm
      rw [e2, Bool.false_or]
      simp [e3]
theorem all_flat_str (ws : List Str) : (ws.map V.str).all flatV = true := by
  induction ws with
  | nil => rfl
  | cons w r ih => rw [List.map_cons, List.all_cons, ih]; rfl
theorem atI_two {α : Type} {x y : α} {d : Int} (h0 : 0 ≤ d) (h1 : d < 2) : atI [x, y] d = some (if d = 0 then x else y) := by
  have h : d = 0 ∨ d = 1 := by omega
  rcases h with rfl | rfl <;> rfl
theorem atI_three {α : Type} {x y z : α} {d : Int} (h0 : 0 ≤ d) (h1 : d < 3) : atI [x, y, z] d = some (if d = 0 then x else if d = 1 then y else z) := by
  have h : d = 0 ∨ d = 1 ∨ d = 2 := by omega
  rcases h with rfl | rfl | rfl <;> rfl
def spWhole (K : PySem.W.Frag) : Sp := fun vs H Q _ => ∃ (x : V) (lo hi : Int) (n : String), vs = [x, .int lo, .int hi] ∧ Arg K H x n ∧ Q (.bl (wholeV x lo hi)) H
def spWord (K : PySem.W.Frag) : Sp := fun vs H Q _ => ∃ (x : V) (t : Addr) (ws : List Str) (n : String), vs = [x, .ref t] ∧ SqT K H t (ws.map V.str) ∧ Arg K H x n ∧ Q (.bl (wordV x ws)) H
def spIsInt (K : PySem.W.Frag) : Sp := fun vs H Q _ => ∃ (x : V) (n : String), vs = [x] ∧ Arg K H x n ∧ Q (.bl (isI x && !isB x)) H
/-- what a def hands back or raises, nothing written -/
def spRes (exc : String → Addr) (r : Except String V) (H : Hp) (Q : VK) (E : XK) : Prop := match r with
  | .ok v => Q v H
  | .error n => E (.ref (exc n)) none H
theorem ite_of {c : Prop} [Decidable c] {α : Type} {a b : α} (h : c) : (if c then a else b) = a := if_pos h
/-! ### tables: what its defs hand back or raise -/
def kindV (x : V) : Bool := wordV x ["rest", "ranges"]
def laneAt (k : V) (c m s : Int) : Int := if k = .str "rest" then m % c else m * c / s
def laneOf (k c m s : V) : Except String V :=
  if kindV k = false then .error "BadKind" else if wholeV c 1 (10 ^ 20) = false then .error "BadCount" else if wholeV m 0 (10 ^ 40) = false then .error "BadMark" else
  if wholeV s 1 (10 ^ 40) = false then .error "BadSize" else match c, m, s with
    | .int c, .int m, .int s => if s ≤ m then .error "BadMark" else .ok (.int (laneAt k c m s))
    | _, _, _ => .ok .non
def spChk (K : PySem.W.Frag) (exc : String → Addr) (good : V → Bool) (n : String) : Sp := fun vs H Q E => ∃ (x : V) (tn : String), vs = [x] ∧ Arg K H x tn ∧ spRes exc (if good x = false then .error n else .ok .non) H Q E
def spChkC (K : PySem.W.Frag) (exc : String → Addr) : Sp := fun vs H Q E => ∃ (x : V) (g : Int) (tn : String), vs = [x, .int g] ∧ (g = 10 ^ 20 ∨ g = 1000) ∧ Arg K H x tn ∧ spRes exc (if wholeV x 1 g = false then .error "BadCount" else .ok .non) H Q E
def spLaneAt : Sp := fun vs H Q _ => ∃ (k : Str) (c m s : Int), vs = [.str k, .int c, .int m, .int s] ∧ 1 ≤ c ∧ c ≤ 10 ^ 20 ∧ 0 ≤ m ∧ m < s ∧ s ≤ 10 ^ 40 ∧ Q (.int (laneAt (.str k) c m s)) H
def spLaneOf (K : PySem.W.Frag) (exc : String → Addr) : Sp := fun vs H Q E => ∃ (k c m s : V) (tk tc tm ts : String), vs = [k, c, m, s] ∧ Arg K H k tk ∧ Arg K H c tc ∧ Arg K H m tm ∧ Arg K H s ts ∧ spRes exc (laneOf k c m s) H Q E
theorem whole_int {x : V} {lo hi : Int} (h : wholeV x lo hi = true) : ∃ i, x = .int i ∧ lo ≤ i ∧ i ≤ hi := by
  cases x with
  | int i =>
    have h2 : (decide (lo ≤ i) && decide (i ≤ hi)) = true := h
    rw [Bool.and_eq_true] at h2
    exact ⟨i, rfl, of_decide_eq_true h2.1, of_decide_eq_true h2.2⟩
  | _ => exact nomatch h
theorem word_str {x : V} {ws : List Str} (h : wordV x ws = true) : ∃ s, x = .str s ∧ s ∈ ws := by
  cases x with
  | str s => exact ⟨s, rfl, of_decide_eq_true h⟩
  | _ => exact nomatch h
theorem whole_of {i lo hi : Int} (h : lo ≤ i) (h' : i ≤ hi) : wholeV (.int i) lo hi = true := by
  show (decide (lo ≤ i) && decide (i ≤ hi)) = true
  rw [decide_eq_true h, decide_eq_true h']; rfl
theorem fmt20 : (toString ((10 : Int) ^ 20) : Str).length = 21 := by decide +kernel
/-! ### lcm, and ranges of any ints -/
def rLcm : List V → Hp → VK → Prop := fun vs H Q => ∃ a b : Nat, vs = [.int (a : Int), .int (b : Int)] ∧ a < 10 ^ 40 ∧ b < 10 ^ 40 ∧ 0 < a ∧ Q (.int ((Nat.lcm a b : Nat) : Int)) H
theorem cr_lcm {X : Cx} : CallR X (.builtin "math.lcm") rLcm := by
  intro pins s σ H vs us Q I r h
  obtain ⟨a, b, rfl, ha, hb, h0, q⟩ := h
  obtain ⟨t, u, rfl⟩ := Vals.int2 r
  have la : (max 1 ((a : Int).natAbs)).log2 ≤ 199 := PySem.W.mg_log (Nat.lt_of_lt_of_le (by rw [Int.natAbs_natCast]; omega : max 1 ((a : Int).natAbs) < 10 ^ 40) (by decide))
  have lb : (max ((a : Int).natAbs) ((b : Int).natAbs)).log2 ≤ 199 := PySem.W.mg_log (Nat.lt_of_lt_of_le (by rw [Int.natAbs_natCast, Int.natAbs_natCast]; omega : max ((a : Int).natAbs) ((b : Int).natAbs) < 10 ^ 40) (by decide))
  have e : ((Nat.lcm 1 ((a : Int).natAbs)).lcm ((b : Int).natAbs) : Nat) = Nat.lcm a b := by rw [Int.natAbs_natCast, Int.natAbs_natCast, Nat.lcm_one_left]
  have ls : (((((Nat.lcm 1 ((a : Int).natAbs)).lcm ((b : Int).natAbs) : Nat)) : Int)).natAbs.log2 < bitsLine := by
    rw [e, Int.natAbs_natCast]
    have h1 : Nat.lcm a b ≤ a * b := by
      unfold Nat.lcm; exact Nat.div_le_self _ _
    have h2 : a * b ≤ 10 ^ 40 * 10 ^ 40 := Nat.mul_le_mul (Nat.le_of_lt ha) (Nat.le_of_lt hb)
    have h3 : (Nat.lcm a b).log2 ≤ 399 := PySem.W.mg_log (Nat.lt_of_le_of_lt (Nat.le_trans h1 h2) (by decide))
    exact Nat.lt_of_le_of_lt h3 (by decide)
  exact PySem.call_function_meets PySem.W.MGF.kind_lcm PySem.W.MGF.plain_lcm PySem.W.MGF.entry_lcm (PySem.W.MGF.args_lcm _ _) (PySem.W.mg_run_lcm _ t _ u (by omega) (by omega) ls).meets ⟨.int _, H, I.tok _, ⟨_, rfl⟩, (by rw [e]; exact q)⟩
theorem turn_long {P : Program} {w : World} {K : PySem.W.Frag} {tg : Expr} (c : Addr) (lo : Int) (n : Nat) : Turn P w K tg (Itr lo n) [c] c (fun i h => IsLongIter h c (lo + (i : Nat) * 1) ((n : Int) - (i : Nat)) 1) := by
  refine { mem := List.mem_singleton.mpr rfl, obj := ?o, keep := ?k, item := ?i, done := ?d, self := ?s }
  case o =>
    intro i h hc b hb
    cases List.mem_singleton.mp hb
    exact ⟨_, hc, fun v (z : Data.fields _ = Data.cell v) => nomatch z⟩
  case k => exact fun i h h' hc k => k c (List.mem_singleton.mpr rfl) _ hc
  case i =>
    rintro X rfl rfl rfl hh i pins s σ H E I hf hc hg
    have hq := hf c (List.mem_singleton.mpr rfl)
    obtain ⟨q0, q1, q2, q3, q4, q5⟩ := hq
    refine (Walks.longrange (prog := X.prog) (w := X.w) (I.ok.hd hh) c lo 1 n).item i s _ _ hg hc fun v h' tk hv hc' hk => ?_
    obtain ⟨t, rfl⟩ := hv
    have J : Inv X pins σ H { s with heap := h', toks := tk } := I.turned (fun b o hb e => hk b o (fun z => hb (List.mem_singleton.mp z)) e) q0 q1 q3 q4 q5
    exact ⟨_, rfl, go_of (s := { s with heap := h', toks := tk }) (n := "longrange_iterator") hc' rfl rfl (by decide) ⟨.int (lo + i), H, J, ⟨t, by rw [Int.mul_one]⟩, ⟨rfl, rfl⟩, hc', fun b hb => (hf b hb).1⟩⟩
  case d =>
    rintro X rfl rfl rfl hh i pins s σ H E I hf hc hg
    obtain ⟨q0, q1, q2, q3, q4, q5⟩ := hf c (List.mem_singleton.mpr rfl)
    have hni : n ≤ i := hg
    exact wpAny_pyNext_long_end (I.ok.hd hh) hc (by omega) fun h' k => ⟨rfl, I.turned (t' := s.toks) (fun b o hb e => k b o hb e) q0 q1 q3 q4 q5⟩
  case s => exact fun _ _ _ _ _ hc h => wpAny_pyIter_longiter hc h
theorem any_range {X : Cx} {tg : Expr} {pins : List (Addr × Obj)} {σ : L2.St} {H : Hp} {s : Shared} {R : It → Hp → Prop} {E : Value → Shared → Prop} {lo hi : Int} {t u v : Tok} {tk : Nat} (I : Inv X pins σ H s) (q : R (Itr lo (hi - lo).toNat) H) :
    wpAny (model X.prog X.w) X.A (pyIter (.ref s.heap.objs.size)) (PIE X pins σ tg R) E { s with heap := s.heap.push { cls := .type "range", data := .fields #[.int lo t, .int hi u, .int 1 v] }, toks := tk } := by
  have J : Inv X pins σ H { s with heap := s.heap.push { cls := .type "range", data := .fields #[.int lo t, .int hi u, .int 1 v] }, toks := tk } := I.kept fun b o e => Heap.get?_push_of_some _ e
  have ez : lo + ((0 : Nat) : Int) * 1 = lo := by omega
  have en : (((hi - lo).toNat : Nat) : Int) - ((0 : Nat) : Int) = Builtin.Range.rangeSize lo hi 1 := by
    rw [rangeSize_one]; split <;> omega
  cases hsm : Builtin.Range.small lo hi 1 with
  | true =>
    refine wpAny_pyIter_range (IsRange.new ..) hsm ?_
    refine ⟨_, [_], _, _, H, rfl, J.kept (t' := tk) fun b o e => Heap.get?_push_of_some _ e, turn_range _ lo (hi - lo).toNat, ?_, fun b hb => ?_, q⟩
    · show IsRangeIter _ _ (lo + ((0 : Nat) : Int) * 1) ((((hi - lo).toNat : Nat) : Int) - ((0 : Nat) : Int)) 1
      rw [ez, en]; exact Heap.get?_push_size _ rfl
    · cases List.mem_singleton.mp hb
      exact J.fpOk (Nat.le_refl _) (J.hok.fresh (Nat.le_refl _))
  | false =>
    refine wpAny_pyIter_longrange (IsRange.new ..) hsm ?_
    refine ⟨_, [_], _, _, H, rfl, J.kept (t' := tk) fun b o e => Heap.get?_push_of_some _ e, turn_long _ lo (hi - lo).toNat, ?_, fun b hb => ?_, q⟩
    · show IsLongIter _ _ (lo + ((0 : Nat) : Int) * 1) ((((hi - lo).toNat : Nat) : Int) - ((0 : Nat) : Int)) 1
      rw [ez, en]; exact Heap.get?_push_size _ rfl
    · cases List.mem_singleton.mp hb
      exact J.fpOk (Nat.le_refl _) (J.hok.fresh (Nat.le_refl _))
def iRngA (ta : TA) : TI := fun σ H R => ta σ H fun vs H1 => ∃ i j : Int, vs = [.int i, .int j] ∧ R (Itr i (j - i).toNat) H1
theorem pi_rangeA {X : Cx} {tg a b : Expr} {ta : TA} {p pos : Pos} (hg : Gl X "range") (hm : X.mg "range" = none) (ha : PA X [a, b] ta) (hs : starEach [a, b] X.env = [(false, eval a X.env), (false, eval b X.env)] := by rfl) (hs2 : starEach [b] X.env = [(false, eval b X.env)] := by rfl) :
    PI X tg (.Call (.Name "range" p) [a, b] [] pos) (iRngA ta) := by
  refine ⟨fun pins s σ H R I h => Call_ (ld_blt I hg hm boot_range (PyProof.Rows.callWith_type1 (thn (ha.run pos pins s σ H _ I h) fun us s1 hh => ?_) (by rw [hs, hs2]) (by rw [hs2]; rfl)))⟩
  obtain ⟨vs, H1, J, r1, i, j, e, q⟩ := hh
  subst e
  obtain ⟨t, t', rfl⟩ := Vals.int2 r1
  exact call_range_2 (any_range J q)
/-! ### marks that move -/
def lstart (l c s : Int) : Int := (l * s + c - 1) / c
def lcmI (a b : Int) : Int := ((Nat.lcm a.toNat b.toNat : Nat) : Int)
def keptRest (low high size : Int) : Int := size / lcmI low high * low + (if low < size % lcmI low high then low else size % lcmI low high)
def gapI (high low size : Int) (l : Int) : Int := if lstart (l + 1) high size - lstart l low size > 0 then lstart (l + 1) high size - lstart l low size else 0
def keptR (high low size : Int) : Nat → Int
  | 0 => 0
  | n + 1 => keptR high low size n + gapI high low size (n : Int)
inductive FirstR (low high size : Int) : V → Prop where
  | at (l : Int) (h1 : 1 ≤ l) (h2 : l ≤ low) (h3 : lstart l high size < lstart l low size) (h4 : ∀ j, 1 ≤ j → j < l → lstart j low size ≤ lstart j high size) : FirstR low high size (.int (lstart l high size))
  | no (h : ∀ j, 1 ≤ j → j ≤ low → lstart j low size ≤ lstart j high size) : FirstR low high size .non
def lowI (b a : Int) : Int := if a < b then a else b
def highI (b a : Int) : Int := if a > b then a else b
def countM (k : Str) (b a s : Int) : Int := if V.str k = .str "rest" then s - keptRest (lowI b a) (highI b a) s else s - keptR (highI b a) (lowI b a) s (lowI b a).toNat
def FirstM (k : Str) (b a s : Int) (r : V) : Prop := if V.str k = .str "ranges" then FirstR (lowI b a) (highI b a) s r else
  r = (if lowI b a < (if s < highI b a then s else highI b a) then .int (lowI b a) else .non)
def mostOf (k : V) : Int := if k = .str "rest" then 10 ^ 20 else 1000
def chkM (k b a s : V) : Option String :=
  if kindV k = false then some "BadKind" else if wholeV b 1 (mostOf k) = false then some "BadCount" else if wholeV a 1 (mostOf k) = false then some "BadCount" else if wholeV s 1 (10 ^ 40) = false then some "BadSize" else none
structure Mvd (ks : Str) (b a s : Int) : Prop where
  k : kindV (.str ks) = true
  b1 : 1 ≤ b
  b2 : b ≤ mostOf (.str ks)
  a1 : 1 ≤ a
  a2 : a ≤ mostOf (.str ks)
  s1 : 1 ≤ s
  s2 : s ≤ 10 ^ 40
theorem chkM_none {k b a s : V} (h : chkM k b a s = none) : ∃ ks bi ai si, k = .str ks ∧ b = .int bi ∧ a = .int ai ∧ s = .int si ∧ Mvd ks bi ai si := by
  unfold chkM at h
  cases e1 : kindV k with
  | false => rw [if_pos e1] at h; cases h
  | true =>
  rw [if_neg (by rw [e1]; decide)] at h
  cases e2 : wholeV b 1 (mostOf k) with
  | false => rw [if_pos e2] at h; cases h
  | true =>
  rw [if_neg (by rw [e2]; decide)] at h
  cases e3 : wholeV a 1 (mostOf k) with
  | false => rw [if_pos e3] at h; cases h
  | true =>
  rw [if_neg (by rw [e3]; decide)] at h
  cases e4 : wholeV s 1 (10 ^ 40) with
  | false => rw [if_pos e4] at h; cases h
  | true =>
  obtain ⟨bi, rfl, b1, b2⟩ := whole_int e2
  obtain ⟨ai, rfl, a1, a2⟩ := whole_int e3
  obtain ⟨si, rfl, s1, s2⟩ := whole_int e4
  obtain ⟨ks, rfl, _⟩ := word_str e1
  exact ⟨ks, bi, ai, si, rfl, rfl, rfl, rfl, e1, b1, b2, a1, a2, s1, s2⟩
theorem chkM_ok {ks : Str} {b a s : Int} (h : Mvd ks b a s) : chkM (.str ks) (.int b) (.int a) (.int s) = none := by
  unfold chkM
  rw [if_neg (by rw [h.k]; decide), if_neg (by rw [whole_of h.b1 h.b2]; decide), if_neg (by rw [whole_of h.a1 h.a2]; decide), if_neg (by rw [whole_of h.s1 h.s2]; decide)]
/-- one who asks: the error, or what comes of good ones -/
def spAskM (K : PySem.W.Frag) (exc : String → Addr) (G : Str → Int → Int → Int → V → Prop) : Sp := fun vs H Q E => ∃ (k b a s : V) (tk tb ta ts : String), vs = [k, b, a, s] ∧ Arg K H k tk ∧ Arg K H b tb ∧ Arg K H a ta ∧ Arg K H s ts ∧
  (∀ n, chkM k b a s = some n → E (.ref (exc n)) none H) ∧ (∀ ks bi ai si, k = .str ks → b = .int bi → a = .int ai → s = .int si → Mvd ks bi ai si → ∀ r, G ks bi ai si r → Q r H)
def spLstart : Sp := fun vs H Q _ => ∃ l c s : Int, vs = [.int l, .int c, .int s] ∧ 0 ≤ l ∧ l ≤ 2000 ∧ 1 ≤ c ∧ c ≤ 1000 ∧ 1 ≤ s ∧ s ≤ 10 ^ 40 ∧ Q (.int (lstart l c s)) H
def spKeptRest : Sp := fun vs H Q _ => ∃ l h s : Int, vs = [.int l, .int h, .int s] ∧ 1 ≤ l ∧ l ≤ 10 ^ 20 ∧ 1 ≤ h ∧ h ≤ 10 ^ 20 ∧ 1 ≤ s ∧ s ≤ 10 ^ 40 ∧ Q (.int (keptRest l h s)) H
def spKeptRanges : Sp := fun vs H Q _ => ∃ l h s : Int, vs = [.int l, .int h, .int s] ∧ 1 ≤ l ∧ l ≤ 1000 ∧ 1 ≤ h ∧ h ≤ 1000 ∧ 1 ≤ s ∧ s ≤ 10 ^ 40 ∧ Q (.int (keptR h l s l.toNat)) H
def spFirstRanges : Sp := fun vs H Q _ => ∃ l h s : Int, vs = [.int l, .int h, .int s] ∧ 1 ≤ l ∧ l ≤ 1000 ∧ 1 ≤ h ∧ h ≤ 1000 ∧ 1 ≤ s ∧ s ≤ 10 ^ 40 ∧ ∀ r, FirstR l h s r → Q r H
theorem lcmI_pos {a b : Int} (ha : 1 ≤ a) (hb : 1 ≤ b) : 1 ≤ lcmI a b := by
  unfold lcmI
  have : 0 < Nat.lcm a.toNat b.toNat := Nat.lcm_pos (by omega) (by omega)
  omega
theorem lcmI_le {a b : Int} (ha : 1 ≤ a) (hb : 1 ≤ b) (ha2 : a ≤ 10 ^ 20) (hb2 : b ≤ 10 ^ 20) : lcmI a b ≤ 10 ^ 40 := by
  unfold lcmI
  have h1 : Nat.lcm a.toNat b.toNat ≤ a.toNat * b.toNat := by
    unfold Nat.lcm; exact Nat.div_le_self _ _
  have h2 : a.toNat * b.toNat ≤ 10 ^ 20 * 10 ^ 20 := Nat.mul_le_mul (by omega) (by omega)
  have h3 : (10 : Nat) ^ 20 * 10 ^ 20 = 10 ^ 40 := by decide
  omega
theorem most_cases {ks : Str} (h : kindV (.str ks) = true) : (V.str ks = .str "rest" ∧ mostOf (.str ks) = 10 ^ 20) ∨ (V.str ks = .str "ranges" ∧ ¬ V.str ks = .str "rest" ∧ mostOf (.str ks) = 1000) := by
  obtain ⟨s, e, hs⟩ := word_str h
  cases e
  rcases List.mem_cons.mp hs with rfl | hs
  · exact .inl ⟨rfl, rfl⟩
  · rcases List.mem_cons.mp hs with rfl | hs
    · exact .inr ⟨rfl, by decide, rfl⟩
    · exact nomatch hs
/-! ### errors caught -/
theorem exm_pair {K : PySem.W.Frag} {A B : Addr} {b : Bool} (p : PySem.W.subIn K (.ref B) (.type "BaseException") = some true) (i : PySem.W.isClsIn K B = true) (t : PySem.W.typeIn K (.ref B) = some (.type "type")) (q : PySem.W.subIn K (.ref A) (.ref B) = some b) :
    PySem.W.exmOne K (.ref A) (.ref B) = some b := by
  have i' : (PySem.W.clsIn K B).isSome = true := i
  unfold PySem.W.exmOne PySem.W.kitCls
  rw [p]
  dsimp only
  rw [i', t]
  exact q
theorem kit_ve {K : PySem.W.Frag} {A : Addr} {b : Bool} (q : PySem.W.subIn K (.ref A) (.type "ValueError") = some b) : PySem.W.kitOne K (.ref A) (.type "ValueError") = some b := by
  have m : PySem.W.kitMeta "ValueError" = true := by decide +kernel
  unfold PySem.W.kitOne PySem.W.kitCls
  dsimp only
  rw [m]
  exact q
/-- isinstance of the error that a suite holds -/
def rIsG (K : PySem.W.Frag) (a : Addr) (cls : Value) (d : Option Addr) : List V → Hp → VK → Prop := fun xs H Q => ∃ D, cls = .ref D ∧ d = none ∧ ExcC K D ∧ rIsE K D a xs H Q
theorem call_isG {X : Cx} {a : Addr} {oe : Obj} {cls : Value} {d : Option Addr} {pn : List (Addr × Obj)} (hz : Zc cls d oe) (hf : ∃ vs, oe.data = .fields vs) : CallR (X.suite a ((a, oe) :: pn)) (.builtin "isinstance") (rIsG X.K a cls d) := by
  intro pins s σ H xs us Q I r h
  obtain ⟨D, rfl, rfl, C, h⟩ := h
  exact call_isE C hz hf pins s σ H xs us Q I r h
end Lc

namespace Lc
open PySem PySem.Spec PyProof.Rows L2 RZ
/-! ### data at hand -/
inductive Dt where
  | non | bl (b : Bool) | int (i : Int) | str (s : Str) | lst (xs : List Dt) | tup (z : Bool) (xs : List Dt) | dic | ins (C : Addr) (ns : List Str) (xs : List Dt)
mutual
/-- no instance in it -/
def Dt.pl : Dt → Bool
  | .lst xs => Dt.plAll xs
  | .tup _ xs => Dt.plAll xs
  | .ins _ _ _ => false
  | .dic => false
  | _ => true
def Dt.plAll : List Dt → Bool
  | [] => true
  | d :: r => d.pl && Dt.plAll r
end
theorem plAll_eq (ds : List Dt) : Dt.plAll ds = ds.all Dt.pl := by
  induction ds with
  | nil => rfl
  | cons d r ih => rw [Dt.plAll, ih]; rfl
theorem pl_ints (ns : List Int) : Dt.plAll (ns.map Dt.int) = true := by
  induction ns with
  | nil => rfl
  | cons d r ih => rw [List.map_cons, Dt.plAll, ih]; rfl
theorem pl_strs (ns : List Str) : Dt.plAll (ns.map Dt.str) = true := by
  induction ns with
  | nil => rfl
  | cons d r ih => rw [List.map_cons, Dt.plAll, ih]; rfl
/-- a tuple held: z where it's known to have no dict of its own -/
inductive Tp (H : Hp) (a : Addr) : Bool → List V → Prop where
  | new {xs : List V} (e : H a = some (.tup xs)) : Tp H a false xs
  | bare {o : Obj} {xs : List V} (c : o.cls = .type "tuple") (d : o.dict = none) (e : H a = some (.frz o (.tup xs))) : Tp H a true xs
theorem Tp.sq {K : PySem.W.Frag} {H : Hp} {a : Addr} {z : Bool} {xs : List V} (h : Tp H a z xs) : SqT K H a xs := by
  cases h with
  | new e => exact SqT.of e
  | bare c d e => exact .inl (.inr ⟨_, e⟩)
theorem Tp.but {H H' : Hp} {a p : Addr} {z : Bool} {xs : List V} (b : But p H H') (ne : a ≠ p) (h : Tp H a z xs) : Tp H' a z xs := by
  cases h with
  | new e => exact .new (b _ _ ne e)
  | bare c d e => exact .bare c d (b _ _ ne e)
theorem Tp.same {H H' : Hp} {a : Addr} {z : Bool} {xs : List V} (k : Same H H') (h : Tp H a z xs) : Tp H' a z xs := by
  cases h with
  | new e => exact .new (k _ _ e)
  | bare c d e => exact .bare c d (k _ _ e)
mutual
inductive Ob (H : Hp) (p : Addr) : V → Dt → Prop where
  | non : Ob H p .non .non
  | bl (b : Bool) : Ob H p (.bl b) (.bl b)
  | int (i : Int) : Ob H p (.int i) (.int i)
  | str (s : Str) : Ob H p (.str s) (.str s)
  | lst {a : Addr} {xs : List V} {ds : List Dt} (e : H a = some (.lst xs)) (ne : a ≠ p) (all : Obs H p xs ds) : Ob H p (.ref a) (.lst ds)
  | tup {a : Addr} {z : Bool} {xs : List V} {ds : List Dt} (e : Tp H a z xs) (ne : a ≠ p) (all : Obs H p xs ds) : Ob H p (.ref a) (.tup z ds)
  | dic {a : Addr} (e : H a = some (.dK [])) (ne : a ≠ p) : Ob H p (.ref a) .dic
inductive Obs (H : Hp) (p : Addr) : List V → List Dt → Prop where
  | nil : Obs H p [] []
  | cons {v : V} {d : Dt} {vs : List V} {ds : List Dt} (h : Ob H p v d) (t : Obs H p vs ds) : Obs H p (v :: vs) (d :: ds)
end
mutual
theorem Ob.but {H H' : Hp} {p : Addr} (b : But p H H') : ∀ {v : V} {d : Dt}, Ob H p v d → Ob H' p v d
  | _, _, .non => .non
  | _, _, .bl b => .bl b
  | _, _, .int i => .int i
  | _, _, .str s => .str s
  | _, _, .lst e ne all => .lst (b _ _ ne e) ne (Obs.but b all)
  | _, _, .tup e ne all => .tup (e.but b ne) ne (Obs.but b all)
  | _, _, .dic e ne => .dic (b _ _ ne e) ne
theorem Obs.but {H H' : Hp} {p : Addr} (b : But p H H') : ∀ {vs : List V} {ds : List Dt}, Obs H p vs ds → Obs H' p vs ds
  | _, _, .nil => .nil
  | _, _, .cons h t => .cons (Ob.but b h) (Obs.but b t)
end
section
variable {H H' : Hp} {p : Addr} {v : V} {d : Dt} {vs : List V} {ds : List Dt}
theorem Ob.same (k : Same H H') (h : Ob H p v d) : Ob H' p v d := h.but fun c o _ e => k c o e
theorem Obs.same (k : Same H H') (h : Obs H p vs ds) : Obs H' p vs ds := h.but fun c o _ e => k c o e
theorem Obs.len : ∀ {vs : List V} {ds : List Dt}, Obs H p vs ds → vs.length = ds.length
  | _, _, .nil => rfl
  | _, _, .cons _ t => congrArg Nat.succ (Obs.len t)
theorem Obs.get : ∀ {vs : List V} {ds : List Dt} {i : Nat} {x : V}, Obs H p vs ds → vs[i]? = some x → ∃ d, ds[i]? = some d ∧ Ob H p x d
  | _, _, _, _, .nil, e => by simp at e
  | _, _, 0, _, .cons h _, e => by
    have e := Option.some.inj (show some _ = some _ from e)
    subst e; exact ⟨_, rfl, h⟩
  | _, _, i + 1, x, .cons _ t, e => Obs.get (i := i) t (by simpa using e)
theorem Obs.append : ∀ {vs ws : List V} {ds es : List Dt}, Obs H p vs ds → Obs H p ws es → Obs H p (vs ++ ws) (ds ++ es)
  | _, _, _, _, .nil, s => s
  | _, _, _, _, .cons h t, s => .cons h (Obs.append t s)
def tyName : Dt → String
  | .non => "NoneType" | .bl _ => "bool" | .int _ => "int" | .str _ => "str" | .lst _ => "list" | .tup _ _ => "tuple" | .dic => "dict" | .ins _ _ _ => "object"
theorem Ob.arg {K : PySem.W.Frag} (h : Ob H p v d) : Arg K H v (tyName d) := by
  cases h with
  | non => exact .non
  | bl b => exact .bl b
  | int i => exact .int i
  | str s => exact .str s
  | lst e _ _ => exact .lst e
  | tup e _ _ =>
    cases e with
    | new e => exact .tup e
    | bare c d e => exact .ftup e
  | dic e _ => exact .dK e
end
def isT : Dt → Bool
  | .tup _ _ => true | _ => false
def isL : Dt → Bool
  | .lst _ => true | _ => false
def isBd : Dt → Bool
  | .bl _ => true | _ => false
def isId : Dt → Bool
  | .bl _ => true | .int _ => true | _ => false
theorem kit_t {K : PySem.W.Frag} (d : Dt) : PySem.W.kitOne K (.type (tyName d)) (.type "tuple") = some (isT d) := by
  cases d <;> dsimp only [tyName, isT] <;> exact kit_ty (by decide +kernel)
theorem kit_l {K : PySem.W.Frag} (d : Dt) : PySem.W.kitOne K (.type (tyName d)) (.type "list") = some (isL d) := by
  cases d <;> dsimp only [tyName, isL] <;> exact kit_ty (by decide +kernel)
theorem kit_b {K : PySem.W.Frag} (d : Dt) : PySem.W.kitOne K (.type (tyName d)) (.type "bool") = some (isBd d) := by
  cases d <;> dsimp only [tyName, isBd] <;> exact kit_ty (by decide +kernel)
theorem kit_i {K : PySem.W.Frag} (d : Dt) : PySem.W.kitOne K (.type (tyName d)) (.type "int") = some (isId d) := by
  cases d <;> dsimp only [tyName, isId] <;> exact kit_ty (by decide +kernel)
/-! ### what a case, a house is -/
def wholeD (d : Dt) (lo hi : Int) : Bool := match d with
  | .int i => decide (lo ≤ i) && decide (i ≤ hi)
  | _ => false
def wordD (d : Dt) (ws : List Str) : Bool := match d with
  | .str s => decide (s ∈ ws)
  | _ => false
def rowD (d : Dt) (lo hi : Int) : Bool := match d with
  | .tup _ xs => decide (lo ≤ (xs.length : Int)) && decide ((xs.length : Int) ≤ hi)
  | _ => false
def itemsD : Dt → List Dt
  | .tup _ xs => xs
  | _ => []
def intD : Dt → Int
  | .int i => i
  | _ => 0
theorem whole_ob {H : Hp} {p : Addr} {v : V} {d : Dt} {lo hi : Int} (h : Ob H p v d) : wholeV v lo hi = wholeD d lo hi := by cases h <;> rfl
theorem word_ob {H : Hp} {p : Addr} {v : V} {d : Dt} {ws : List Str} (h : Ob H p v d) : wordV v ws = wordD d ws := by cases h <;> rfl
def countsD (d : Dt) : Bool := rowD d 2 3 && (itemsD d).all fun x => wholeD x 1 4
def courseD (d c : Dt) : Bool := rowD d ((itemsD c).length : Nat) ((itemsD c).length : Nat) && ((itemsD d).zip (itemsD c)).all fun q => wholeD q.1 0 (intD q.2 - 1)
def refusals : List Str := ["back", "lost"]
def notings : List Str := ["behind", "first", "with"]
def planWords : List Str := ["show", "tell", "agree", "close", "clear", "drain", "copy", "open", "drop"]
def schemeD (d : Dt) : Bool := match d with
  | .tup _ [a, b, r, n, s] => isBd a && isBd b && isBd s && (wordD r refusals && wordD n notings)
  | _ => false
def isShow : Dt → Bool
  | .str s => decide (s = "show")
  | _ => false
def shows (d : Dt) : Nat := (itemsD d).countP isShow
def planD (d : Dt) : Bool := rowD d 1 15 && ((itemsD d).all (fun x => wordD x planWords) && (decide (1 ≤ shows d) && decide (shows d ≤ 2)))
def frameD (s p c : Dt) : Bool := schemeD s && (planD p && (countsD c && decide ((itemsD c).length = shows p + 1)))
def caseD (d : Dt) : Bool := match d with
  | .tup _ [s, p, c, o] => frameD s p c && courseD o c
  | _ => false
def keysD (o l c : Dt) : Bool := (rowD o 1 3 && rowD l ((itemsD o).length : Nat) ((itemsD o).length : Nat)) && ((itemsD o).all (fun x => courseD x c) && (itemsD l).all fun x => wholeD x 1 3)
def houseD (d : Dt) : Bool := match d with
  | .tup _ [s, p, c, o, l, n] => frameD s p c && (keysD o l c && wholeD n 1 3)
  | _ => false
/-- the plan's tuple, where its words are words, has no dict -/
def fzPlan : Dt → Prop
  | .tup z xs => rowD (.tup z xs) 1 15 = true → (xs.all fun x => wordD x planWords) = true → z = true
  | _ => True
def fzCase : Dt → Prop
  | .tup _ [_, p, _, _] => fzPlan p
  | _ => True
def fzHouse : Dt → Prop
  | .tup _ [_, p, _, _, _, _] => fzPlan p
  | _ => True
/-! ### promises -/
def spRow : Sp := fun vs H Q _ => ∃ (p : Addr) (x : V) (d : Dt) (lo hi : Int), vs = [x, .int lo, .int hi] ∧ Ob H p x d ∧ Q (.bl (rowD d lo hi)) H
/-- a test of one object -/
def spIs (ok : Dt → Prop) (f : Dt → Bool) : Sp := fun vs H Q _ => ∃ (p : Addr) (x : V) (d : Dt), vs = [x] ∧ Ob H p x d ∧ ok d ∧ ∀ H', Same H H' → Q (.bl (f d)) H'
def spIs2 (ok : Dt → Prop) (f : Dt → Dt → Bool) : Sp := fun vs H Q _ => ∃ (p : Addr) (x y : V) (d e : Dt), vs = [x, y] ∧ Ob H p x d ∧ Ob H p y e ∧ ok e ∧ ∀ H', Same H H' → Q (.bl (f d e)) H'
def spIs3 (ok : Dt → Dt → Dt → Prop) (f : Dt → Dt → Dt → Bool) : Sp := fun vs H Q _ => ∃ (p : Addr) (x y z : V) (d e g : Dt), vs = [x, y, z] ∧ Ob H p x d ∧ Ob H p y e ∧ Ob H p z g ∧ ok d e g ∧ ∀ H', Same H H' → Q (.bl (f d e g)) H'
/-- all([test of x for x in t]), t a tuple -/
theorem all_comp {K : PySem.W.Frag} {a : Addr} {xs : List V} {ds : List Dt} {i0 j : Nat} {te : TE} {σ : L2.St} {H : Hp} {Q : VK} {p : Addr} (f : Dt → Bool) (hj : σ[j]? = some (some (.ref a))) {z : Bool} (hT : Tp H a z xs) (hO : Obs H p xs ds) (hl : xs.length ≤ 1000)
    (hte : ∀ (x : V) (d : Dt) (H' : Hp) (R : VK), Same H H' → Ob H' p x d → (∀ H2, Same H' H2 → R (.bl (f d)) H2) → te ((wipe σ [i0]).set i0 (some x)) H' R)
    (hw : ∀ x : V, wipe ((wipe σ [i0]).set i0 (some x)) [i0] = wipe σ [i0])
    (q : ∀ H', Same H H' → Q (.bl (ds.all f)) H') : tCB (rAll K) (tCons (tLc (iTup K (tVar j)) (gName i0) tYes te [i0]) tNil) σ H Q := by
  refine ⟨_, hj, a, rfl, ⟨_, hT.sq⟩, fun D hD => ?_⟩
  have len := hO.len
  refine lc_tup (K := K) (a := a) (xs := xs) (fun i H' => Same H H' ∧ H' D = some (.lst (((ds.take i).map f).map V.bl))) ⟨same_upd hD, upd_same⟩ (fun i H' _ h => (hT.same h.1).sq) ?_ ?_
  · rintro i x H' hx ⟨k, e⟩
    obtain ⟨d, hd, ob⟩ := (hO.same k).get hx
    refine ⟨hw x, hte x d H' _ k ob fun H2 k2 => ⟨_, k2 _ _ e, ?_, fun c o hc => ?_, ?_⟩⟩
    · rw [List.length_map, List.length_map, List.length_take]
      exact Nat.lt_of_le_of_lt (show _ ≤ 1000 by omega) (by decide)
    · rw [upd_ne (ne_of_none hc hD)]; exact k2 _ _ (k c o hc)
    · rw [upd_same, List.take_add_one, hd, List.map_append, List.map_append]; rfl
  · rintro H' ⟨k, e⟩
    rw [len, List.take_length] at e
    refine ⟨D, _, rfl, SqL.of e, ?_⟩
    have e2 : (ds.map f).all id = ds.all f := by rw [List.all_map]; rfl
    rw [e2]
    exact q H' k
/-- all([test of x, y for x, y in zip(t, u)]), t, u tuples -/
theorem all_zip {K : PySem.W.Frag} {a b : Addr} {xs ys : List V} {ds es : List Dt} {i1 i2 j1 j2 : Nat} {te : TE} {σ : L2.St} {H : Hp} {Q : VK} {p : Addr} (f : Dt × Dt → Bool) (hj : σ[j1]? = some (some (.ref a))) (hj2 : σ[j2]? = some (some (.ref b)))
    {z : Bool} (hT : Tp H a z xs) {z2 : Bool} (hU : Tp H b z2 ys) (hO : Obs H p xs ds) (hP : Obs H p ys es) (hl : xs.length ≤ 1000)
    (hte : ∀ (x y : V) (d e : Dt) (H' : Hp) (R : VK), Same H H' → Ob H' p x d → Ob H' p y e → e ∈ es → (∀ H2, Same H' H2 → R (.bl (f (d, e))) H2) → te (((wipe σ [i1, i2]).set i1 (some x)).set i2 (some y)) H' R)
    (hw : ∀ x y : V, wipe (((wipe σ [i1, i2]).set i1 (some x)).set i2 (some y)) [i1, i2] = wipe σ [i1, i2])
    (q : ∀ H', Same H H' → Q (.bl ((ds.zip es).all f)) H') : tCB (rAll K) (tCons (tLc (iZipA K (tCons (tVar j1) (tCons (tVar j2) tNil))) (gTup K 2 (gCons (gName i1) (gCons (gName i2) gNil))) tYes te [i1, i2]) tNil) σ H Q := by
  refine ⟨_, hj, _, hj2, a, b, xs, ys, rfl, .inr ⟨hT.sq, hU.sq, fun D hD => ?_⟩⟩
  have l1 := hO.len
  have l2 := hP.len
  have lz : (ds.zip es).length ≤ 1000 := by rw [List.length_zip]; omega
  refine ⟨fun i m H' => m = (ds.zip es).length - i ∧ i ≤ (ds.zip es).length ∧ Same H H' ∧ H' D = some (.lst ((((ds.zip es).take i).map f).map V.bl)), ⟨_, rfl, Nat.zero_le _, same_upd hD, upd_same⟩, ?_⟩
  rintro i m H' ⟨rfl, hi, k, e⟩
  by_cases lt : i < (ds.zip es).length
  · have lt2 := lt
    rw [List.length_zip] at lt2
    have gx : xs[i]? = some xs[i] := List.getElem?_eq_getElem (by omega)
    have gy : ys[i]? = some ys[i] := List.getElem?_eq_getElem (by omega)
    obtain ⟨d, gd, od⟩ := (hO.same k).get gx
    obtain ⟨e', ge, oe⟩ := (hP.same k).get gy
    refine .inr ⟨⟨xs, ys, _, _, (hT.same k).sq, (hU.same k).sq, gx, gy⟩, fun H2 => Same H H2 ∧ H2 D = some (.lst ((((ds.zip es).take (i + 1)).map f).map V.bl)), fun H2 h2 => ⟨_, by omega, rfl, lt, h2⟩, ?_⟩
    rintro v H2 ⟨t, x, y, rfl, ht, rfl, fx, fy⟩
    have ex : x = xs[i] := Option.some.inj ((fx _ ((hT.same k).sq)).symm.trans gx)
    have ey : y = ys[i] := Option.some.inj ((fy _ ((hU.same k).sq)).symm.trans gy)
    subst ex; subst ey
    have kt := same_upd (o := .tup [xs[i], ys[i]]) ht
    refine ⟨t, _, rfl, SqT.of upd_same, rfl, _, _, rfl, _, _, rfl, rfl, ?_⟩
    refine ⟨hw _ _, hte _ _ d e' _ _ (k.trans kt) (od.same kt) (oe.same kt) (List.mem_of_getElem? ge) fun H3 k3 => ⟨_, k3 _ _ (kt _ _ e), ?_, fun c o hc => ?_, ?_⟩⟩
    · rw [List.length_map, List.length_map, List.length_take]
      exact Nat.lt_of_le_of_lt (show _ ≤ 1000 by omega) (by decide)
    · rw [upd_ne (ne_of_none hc hD)]; exact k3 _ _ (kt _ _ (k c o hc))
    · have gz : (ds.zip es)[i]? = some (d, e') := by rw [List.getElem?_zip_eq_some]; exact ⟨gd, ge⟩
      rw [upd_same, List.take_add_one, gz, List.map_append, List.map_append]; rfl
  · have ei : i = (ds.zip es).length := by omega
    subst ei
    rw [List.take_length] at e
    have e2 : ((ds.zip es).map f).all id = (ds.zip es).all f := by rw [List.all_map]; rfl
    refine .inl ⟨⟨xs, ys, (hT.same k).sq, (hU.same k).sq, ?_⟩, D, _, rfl, SqL.of e, ?_⟩
    · rw [List.length_zip]; omega
    · rw [e2]; exact q H' k
/-! ### t.count(text) -/
def rTCnt (K : PySem.W.Frag) : V → List V → Hp → VK → Prop := fun x xs H Q => ∃ (p : Addr) (ws : List Str) (k : Str), x = .ref p ∧ xs = [.str k] ∧ SqT K H p (ws.map V.str) ∧ Q (.int (ws.countP fun y => decide (y = k) : Nat)) H
theorem dp_strs {K : PySem.W.Frag} {H : Hp} : ∀ ws : List Str, DpAll K H (ws.map V.str) (ws.map PyData.str)
  | [] => .nil
  | w :: r => .cons (.str w) (dp_strs r)
theorem plain_strs : ∀ ws : List Str, PyData.plainAll (ws.map PyData.str) = true
  | [] => rfl
  | w :: r => by
    rw [List.map_cons]
    show (PyData.plain (.str w) && PyData.plainAll (r.map PyData.str)) = true
    rw [plain_strs r]; rfl
theorem mt_tcount {X : Cx} (hu : X.A.units + 64 < cLine) : MtR X "tuple.count" (rTCnt X.K) := by
  intro pins s σ H x xs v us Q I rx rxs h
  obtain ⟨p, ws, k, rfl, rfl, hs, q⟩ := h
  cases rx
  obtain ⟨u, rfl, ru⟩ := rxs.one
  obtain ⟨its, rv, pt, _⟩ := I.tuple hs
  obtain ⟨as, rs⟩ := Dp.readsAll I (ws.map PyData.str) (ws.map V.str) its (dp_strs ws) rv
  obtain ⟨bs, rk⟩ := Dp.reads I (.str k) (.str k) u (.str k) ru
  have dk : PyData.depth (.str k) ≤ 1 := by simp [PyData.depth]
  refine PySem.SeqAt.count_tuple_data pt (by simpa using rs) rk (plain_strs ws) rfl (by have := Nat.min_le_right (PyData.depthAll (ws.map PyData.str)) (PyData.depth (.str k)); omega) ⟨.int _, H, I.tok _, ⟨_, rfl⟩, ?_⟩
  have e : (ws.map PyData.str).countP (fun y => PyData.eqv y (.str k)) = ws.countP fun y => decide (y = k) := by
    rw [List.countP_map]
    congr 1
  rw [e]; exact q
/-! ### tuples laid, known to have no dict -/
section
variable {X : Cx} {es : List Expr} {t : TA} {pos : Pos}
/-- (e, ..) -/
def tTupF (t : TA) : TE := fun σ H Q => t σ H fun xs H1 => xs.length ≤ sizeLine ∧ ∀ p H2, H1 p = none → Same H1 H2 → Tp H2 p true xs → (∀ b, H2 b = none → H1 b = none) → Q (.ref p) H2
theorem fz_same {H : Hp} {p : Addr} {u : HO} (h : H p = none) : ∀ b, (upd H p u) b = none → H b = none := fun b e => by
  by_cases z : b = p
  · subst z; exact h
  · rw [upd_ne z] at e; exact e
theorem pe_tupF {c} (h : PA X es t) : PE X (.Tuple es c pos) (tTupF t) := by
  refine ⟨fun pins s σ H Q I hq => ?_⟩
  refine wpAny_Tuple_spliced (thn (h.run pos pins s σ H _ I hq) fun us s1 ⟨xs, H1, I1, r, z, q⟩ => ⟨by rw [← r.length]; exact z, ?_⟩)
  have hf : H1 s1.heap.objs.size = none := I1.hok.fresh (Nat.le_refl _)
  refine ⟨.ref s1.heap.objs.size, _, I1.laid (t' := s1.toks) (o := .frz { cls := .type "tuple", data := .seq us.toArray } (.tup xs)) (fun b u e => Heap.get?_push_of_some _ e) (Nat.le_refl _) ?_, rfl, q _ _ hf (same_upd hf) (.bare rfl rfl upd_same) (fz_same hf)⟩
  exact ⟨Heap.get?_push_size _ rfl, z, us, r, ⟨_, Heap.get?_push_size _ rfl, rfl, _, rfl⟩⟩
/-- tuple(a list) -/
def tTupOfF (K : PySem.W.Frag) (ta : TE) : TE := fun σ H Q => ta σ H fun x H1 => ∃ a xs, x = .ref a ∧ SqL K H1 a xs ∧ ∀ p H2, H1 p = none → Same H1 H2 → Tp H2 p true xs → (∀ b, H2 b = none → H1 b = none) → Q (.ref p) H2
theorem pe_tupleOfF {a : Expr} {ta : TE} {p pos : Pos} (hg : Gl X "tuple") (hm : X.mg "tuple" = none) (ha : PE X a ta) (na : starEach [a] X.env = (false, eval a X.env) :: starEach [] X.env := by rfl) : PE X (.Call (.Name "tuple" p) [a] [] pos) (tTupOfF X.K ta) := by
  refine ⟨fun pins s σ H Q I h => ?_⟩
  refine Call_ (ld_blt I hg hm boot_tuple (PyProof.Rows.callWith_type1 (one_arg ha I h (fun v s2 x H2 I2 r q => ?_) na) na))
  obtain ⟨b, xs, rfl, hs, q⟩ := q
  obtain rfl : v = .ref b := r
  obtain ⟨its, rv, pl, hz⟩ := I2.list hs
  refine call_tuple_list pl.isList (fun h' hk => ?_) (by rw [List.size_toArray, ← rv.length]; exact hz)
  have I3 : Inv X pins σ H2 { s2 with heap := h' } := I2.kept (t' := s2.toks) hk
  have hf : H2 h'.objs.size = none := I3.hok.fresh (Nat.le_refl _)
  refine ⟨.ref h'.objs.size, _, I3.laid (t' := s2.toks) (o := .frz { cls := .type "tuple", data := .seq its.toArray } (.tup xs)) (fun b o e => Heap.get?_push_of_some _ e) (Nat.le_refl _) ?_, rfl, q _ _ hf (same_upd hf) (.bare rfl rfl upd_same) (fz_same hf)⟩
  exact ⟨Heap.get?_push_size _ rfl, hz, its, rv, IsTup.new _ _⟩
/-- t + u -/
def rCatF (K : PySem.W.Frag) : R2 := fun x y H Q => ∃ a b xs ys, x = .ref a ∧ y = .ref b ∧ SqT K H a xs ∧ SqT K H b ys ∧ xs.length + ys.length ≤ sizeLine ∧
  (xs = [] → Q (.ref b) H) ∧ (xs ≠ [] → ys = [] → Q (.ref a) H) ∧ (xs ≠ [] → ys ≠ [] → ∀ p H2, H p = none → Same H H2 → Tp H2 p true (xs ++ ys) → (∀ b, H2 b = none → H b = none) → Q (.ref p) H2)
theorem op_catF : OpR X (binaryOp .Add) (rCatF X.K) := by
  intro pins s σ H x y v u Q I rx ry h
  obtain ⟨a, b, xs, ys, rfl, rfl, ha, hb, hz, q0, q1, q2⟩ := h
  cases rx
  cases ry
  obtain ⟨its, r1, p1, _⟩ := I.tuple ha
  obtain ⟨its2, r2, p2, _⟩ := I.tuple hb
  by_cases hx : xs = []
  · subst hx
    cases r1
    exact cat_tup0 p1 p2 ⟨.ref b, H, I, rfl, q0 rfl⟩
  · refine HT.cat_tup p1 p2 (fun z => hx (r1.nil_iff.mp z)) (fun z => ⟨.ref a, H, I, rfl, q1 hx (r2.nil_iff.mp z)⟩) (fun z => ?_) (by rw [← r1.length, ← r2.length]; exact hz)
    have hf : H s.heap.objs.size = none := I.hok.fresh (Nat.le_refl _)
    refine ⟨.ref s.heap.objs.size, _, I.laid (t' := s.toks) (o := .frz { cls := .type "tuple", data := .seq (its ++ its2).toArray } (.tup (xs ++ ys))) (fun b ob q => Heap.get?_push_of_some _ q) (Nat.le_refl _) ?_, rfl, q2 hx (fun w => z (r2.nil_iff.mpr w)) _ _ hf (same_upd hf) (.bare rfl rfl upd_same) (fz_same hf)⟩
    exact ⟨Heap.get?_push_size _ rfl, by rw [List.length_append]; exact hz, _, r1.append r2, IsTup.new _ _⟩
end
/-! ### t * k, k at least one -/
section
open PySem.AutoSeq1 (wpAny_loadPart')
theorem tuple_mul1 (l : Addr) (items : Array Value) (n : Nat) (dd : Option Addr) (sl : Array (Option Value)) (u : Tok) :
    Meets (Builtin.«tuple.__mul__» ⟨[.ref l, .int 1 u], []⟩) (fun _ R s => s.heap.get? l = some { cls := .type "tuple", dict := dd, data := .seq items n, slots := sl } ∧ R (.ok (.ret (Value.ref l))) s) :=
  .of_wp fun prog w A R s h => by
    obtain ⟨hp, g, d, tk, os⟩ := s
    obtain ⟨hl, h⟩ := h
    have f1 := AutoSeq1.idx_int
    have c0 : (decide ((1 : Int) < -(2 ^ 63)) || decide ((1 : Int) ≥ 2 ^ 63)) = false := by decide
    have c1 : (items.isEmpty || (1 : Int) == 1) = true := by simp
    wp_walk using wpAny_loadPart' hl
    repeat (first
      | (refine wpAny_ite_false (decide_eq_false (by rw [c0]; exact Bool.false_ne_true)) ?_; wp_walk using wpAny_loadPart' hl)
      | (refine wpAny_ite_true (decide_eq_true c1) ?_; wp_walk using wpAny_loadPart' hl))
    exact ⟨_, rfl, h⟩
def rRepF (K : PySem.W.Frag) : R2 := fun x y H Q => ∃ l k xs, x = .ref l ∧ y = .int k ∧ SqT K H l xs ∧ xs ≠ [] ∧ 1 ≤ k ∧ k ≤ 1000 ∧ xs.length ≤ 1000 ∧ (k = 1 → Q (.ref l) H) ∧ (2 ≤ k → ∀ p, H p = none → Q (.ref p) (upd H p (.tup (List.replicate k.toNat xs).flatten)))
theorem op_repF {X : Cx} : OpR X (binaryOp .Mult) (rRepF X.K) := by
  intro pins s σ H x y v u Q I rx ry h
  obtain ⟨l, k, xs, rfl, rfl, hT, hne, h1, h2, hz, q1, q2⟩ := h
  by_cases hk : k = 1
  · subst hk
    cases rx
    obtain ⟨t, rfl⟩ := ry
    obtain ⟨its, r, ⟨⟨cls, dd, data, sl⟩, ho, hc, n, hd⟩, hs⟩ := I.tuple hT
    simp only at hc hd
    subst hc hd
    refine wpAny_binaryOp_repeat_ref (T := "tuple") (U := "int") (by decide) ⟨_, ho, rfl⟩ (fun s' => typeIs_int s' 1 t) noFill_tuple_mul PySem.F.fills_int_mul PySem.F.slot_int_rmul repeat_tuple PySem.F.slot_int_index.lookup
      (call_meets PySem.F.slot_int_rmul (typeIs_int s 1 t) PySem.F.entry_int_rmul (PySem.F.args_int_rmul_2 _ _) (int_rmul_tuple 1 t l its.toArray n dd sl)
        ⟨ho, rfl, ⟨_, ho, rfl⟩, call_meets PySem.F.slot_tuple_mul ⟨_, ho, rfl⟩ PySem.F.entry_tuple_mul (PySem.F.args_tuple_mul_2 _ _) (tuple_mul1 l its.toArray n dd sl t) ⟨ho, ?_⟩⟩)
    exact ⟨.ref l, H, I, rfl, q1 rfl⟩
  · exact op_repT pins s σ H _ _ v u Q I rx ry ⟨l, k, xs, rfl, rfl, hT, hne, by omega, h2, hz, q2 (by omega)⟩
end
/-! ### a method of a tuple that has no dict -/
def tBMF (r : V → List V → Hp → VK → Prop) (to : TE) (t : TA) : TE := fun σ H Q => to σ H fun x H1 => (∃ a xs, x = .ref a ∧ Tp H1 a true xs) ∧ t σ H1 fun xs H2 => r x xs H2 Q
section
variable {X : Cx} {o e : Expr} {es : List Expr} {to : TE} {t : TA} {name : Str} {apos cpos : Pos} {id : String} {r : V → List V → Hp → VK → Prop}
theorem pe_bmF (pa : PlainAttrs "tuple") (slot : Slot "tuple" name id) (hty : typeOf (.builtin id) = pure (.type "method_descriptor")) (hm : MtR X id r) (ho : PE X o to) (ha : PA X (e :: es) t)
    (hbase : attributeBase o name X.env (eval o X.env) = eval o X.env := by rfl)
    (hfew : ((backTo cpos (starEach (e :: es) X.env)).all (fun x => !x.1) && (backToKw cpos (keywordEach [] X.env)).all (fun x => x.1.isSome)
      && decide ((e :: es).length + ([] : List Keyword).length + (if ([] : List Keyword).isEmpty then 0 else 1) < 30)) = true := by rfl)
    (hline : (apos.endLine == cpos.line) = true := by rfl) (hs : starEach (e :: es) X.env = (false, eval e X.env) :: starEach es X.env := by rfl) (hplain : (backTo cpos (starEach es X.env)).any (·.1) = false := by rfl) :
    PE X (.Call (.Attribute o name apos) (e :: es) [] cpos) (tBMF r to t) := by
  refine ⟨fun pins s σ H Q I h => ?_⟩
  refine wpAny_Call_method_late hbase hfew hline rfl (thn (ho.run pins s σ H _ I h) fun v s1 ⟨x, H1, I1, r1, ty, q1⟩ => ?_)
  have hh : s1.TypeIs v "tuple" ∧ ∀ a, v = .ref a → ∃ ob, s1.heap.get? a = some ob ∧ ob.dict = none := by
    obtain ⟨a, xs, rfl, tp⟩ := ty
    obtain rfl : v = .ref a := r1
    cases tp with
    | @bare ob _ c d e =>
      obtain ⟨g, _⟩ := I1.hok a _ e
      exact ⟨⟨ob, g, c⟩, fun b z => by cases z; exact ⟨ob, g, d⟩⟩
  obtain ⟨h1, h2⟩ := hh
  refine ⟨"tuple", id, pa, slot, hty, h1, h2, ?_⟩
  have hA := ha.run cpos pins s1 σ H1 _ I1 q1
  rw [hs] at hA ⊢
  refine Calls.callWith_builtin (by show (false || (backTo cpos (starEach es X.env)).any (·.1)) = false; rw [hplain] <;> rfl) (Calls.evalArgs_plain ?_)
  exact thn hA fun us s2 ⟨vs, H2, I2, r2, q2⟩ => hm pins s2 σ H2 x vs v us Q I2 r1 r2 q2
end
end Lc

namespace Lc
open PySem PySem.Spec PyProof.Rows L2 RZ
/-! ### comprehensions in comprehensions -/
def relabelC (sc scope : Scope) : Scope :=
  { scope with names := scope.names.map fun q => if q.2 == .free && sc.kind == .function && sc.names.lookup q.1 == some .cell then (q.1, .cell) else (q.1, q.2) }
theorem blkOk_in {N : List Str} {sc0 scO scI : Scope} {env : Env} {own : List (Str × Nat)} (he : env.scope = sc0) (h : blkC N (relabelC sc0 scO) scI own = true) : BlkOk N (relabel scO env) scI own := by
  have e : relabel scO env = relabelC sc0 scO := by subst he; rfl
  rw [e]
  exact blkOk_by h
/-! ### data trees, some addresses kept out -/
abbrev AS := Addr → Prop
def And1 (Av : Addr → Prop) (D : Addr) : Addr → Prop := fun b => Av b ∨ b = D
mutual
inductive Oc (H : Hp) (S : AS) : V → Dt → Prop where
  | non : Oc H S .non .non
  | bl (b : Bool) : Oc H S (.bl b) (.bl b)
  | int (i : Int) : Oc H S (.int i) (.int i)
  | str (s : Str) : Oc H S (.str s) (.str s)
  | lst {a : Addr} {xs : List V} {ds : List Dt} (e : H a = some (.lst xs)) (ne : ¬ S a) (all : Ocs H S xs ds) : Oc H S (.ref a) (.lst ds)
  | tup {a : Addr} {z : Bool} {xs : List V} {ds : List Dt} (e : Tp H a z xs) (ne : ¬ S a) (all : Ocs H S xs ds) : Oc H S (.ref a) (.tup z ds)
  | ins {a C dx : Addr} {fs : List (Str × V)} {ns : List Str} {ds : List Dt} (e : H a = some (.ins C dx fs)) (ne : ¬ S a) (hn : fs.map Prod.fst = ns) (all : Ocs H S (fs.map Prod.snd) ds) : Oc H S (.ref a) (.ins C ns ds)
inductive Ocs (H : Hp) (S : AS) : List V → List Dt → Prop where
  | nil : Ocs H S [] []
  | cons {v : V} {d : Dt} {vs : List V} {ds : List Dt} (h : Oc H S v d) (t : Ocs H S vs ds) : Ocs H S (v :: vs) (d :: ds)
end
/-- all but S stands as it was -/
def ButS (S : AS) (H H' : Hp) : Prop := ∀ b o, ¬ S b → H b = some o → H' b = some o
def Lv (H : Hp) (S : AS) : Prop := ∀ a, S a → H a ≠ none
theorem Tp.butS {H H' : Hp} {S : AS} {a : Addr} {z : Bool} {xs : List V} (b : ButS S H H') (ne : ¬ S a) (h : Tp H a z xs) : Tp H' a z xs := by
  cases h with
  | new e => exact .new (b _ _ ne e)
  | bare c d e => exact .bare c d (b _ _ ne e)
mutual
theorem Oc.but {H H' : Hp} {S : AS} (b : ButS S H H') : ∀ {v : V} {d : Dt}, Oc H S v d → Oc H' S v d
  | _, _, .non => .non
  | _, _, .bl b => .bl b
  | _, _, .int i => .int i
  | _, _, .str s => .str s
  | _, _, .lst e ne all => .lst (b _ _ ne e) ne (Ocs.but b all)
  | _, _, .tup e ne all => .tup (e.butS b ne) ne (Ocs.but b all)
  | _, _, .ins e ne hn all => .ins (b _ _ ne e) ne hn (Ocs.but b all)
theorem Ocs.but {H H' : Hp} {S : AS} (b : ButS S H H') : ∀ {vs : List V} {ds : List Dt}, Ocs H S vs ds → Ocs H' S vs ds
  | _, _, .nil => .nil
  | _, _, .cons h t => .cons (Oc.but b h) (Ocs.but b t)
end
mutual
theorem Oc.sub {H : Hp} {S S' : AS} (k : ∀ a, S' a → S a) : ∀ {v : V} {d : Dt}, Oc H S v d → Oc H S' v d
  | _, _, .non => .non
  | _, _, .bl b => .bl b
  | _, _, .int i => .int i
  | _, _, .str s => .str s
  | _, _, .lst e ne all => .lst e (fun z => ne (k _ z)) (Ocs.sub k all)
  | _, _, .tup e ne all => .tup e (fun z => ne (k _ z)) (Ocs.sub k all)
  | _, _, .ins e ne hn all => .ins e (fun z => ne (k _ z)) hn (Ocs.sub k all)
theorem Ocs.sub {H : Hp} {S S' : AS} (k : ∀ a, S' a → S a) : ∀ {vs : List V} {ds : List Dt}, Ocs H S vs ds → Ocs H S' vs ds
  | _, _, .nil => .nil
  | _, _, .cons h t => .cons (Oc.sub k h) (Ocs.sub k t)
end
theorem Tp.some {H : Hp} {a : Addr} {z : Bool} {xs : List V} (h : Tp H a z xs) : H a ≠ none := by
  cases h with
  | new e => rw [e]; exact fun z => nomatch z
  | bare c d e => rw [e]; exact fun z => nomatch z
mutual
theorem Oc.add {H : Hp} {S : AS} {D : Addr} (hD : H D = none) : ∀ {v : V} {d : Dt}, Oc H S v d → Oc H (And1 S D) v d
  | _, _, .non => .non
  | _, _, .bl b => .bl b
  | _, _, .int i => .int i
  | _, _, .str s => .str s
  | _, _, .lst e ne all => .lst e (fun z => z.elim ne fun y => by rw [y, hD] at e; cases e) (Ocs.add hD all)
  | _, _, .tup e ne all => .tup e (fun z => z.elim ne fun y => e.some (y ▸ hD)) (Ocs.add hD all)
  | _, _, .ins e ne hn all => .ins e (fun z => z.elim ne fun y => by rw [y, hD] at e; cases e) hn (Ocs.add hD all)
theorem Ocs.add {H : Hp} {S : AS} {D : Addr} (hD : H D = none) : ∀ {vs : List V} {ds : List Dt}, Ocs H S vs ds → Ocs H (And1 S D) vs ds
  | _, _, .nil => .nil
  | _, _, .cons h t => .cons (Oc.add hD h) (Ocs.add hD t)
end
section
variable {H H' : Hp} {S S' : AS} {v : V} {d : Dt} {vs : List V} {ds : List Dt}
theorem Same.butS (k : Same H H') : ButS S H H' := fun b o _ e => k b o e
theorem Oc.same (k : Same H H') (h : Oc H S v d) : Oc H' S v d := h.but (Same.butS k)
theorem Ocs.same (k : Same H H') (h : Ocs H S vs ds) : Ocs H' S vs ds := h.but (Same.butS k)
theorem Ocs.len : ∀ {vs : List V} {ds : List Dt}, Ocs H S vs ds → vs.length = ds.length
  | _, _, .nil => rfl
  | _, _, .cons _ t => congrArg Nat.succ (Ocs.len t)
theorem Ocs.get : ∀ {vs : List V} {ds : List Dt} {i : Nat} {x : V}, Ocs H S vs ds → vs[i]? = some x → ∃ d, ds[i]? = some d ∧ Oc H S x d
  | _, _, _, _, .nil, e => by simp at e
  | _, _, 0, _, .cons h _, e => by
    have e := Option.some.inj (show some _ = some _ from e)
    subst e; exact ⟨_, rfl, h⟩
  | _, _, i + 1, x, .cons _ t, e => Ocs.get (i := i) t (by simpa using e)
theorem Ocs.at : ∀ {vs : List V} {ds : List Dt} {i : Nat} {d : Dt}, Ocs H S vs ds → ds[i]? = some d → ∃ x, vs[i]? = some x ∧ Oc H S x d
  | _, _, _, _, .nil, e => by simp at e
  | _, _, 0, _, .cons h _, e => by
    have e := Option.some.inj (show some _ = some _ from e)
    subst e; exact ⟨_, rfl, h⟩
  | _, _, i + 1, x, .cons _ t, e => Ocs.at (i := i) t (by simpa using e)
theorem Ocs.append : ∀ {vs ws : List V} {ds es : List Dt}, Ocs H S vs ds → Ocs H S ws es → Ocs H S (vs ++ ws) (ds ++ es)
  | _, _, _, _, .nil, s => s
  | _, _, _, _, .cons h t, s => .cons h (Ocs.append t s)
theorem Ocs.snoc (h : Ocs H S vs ds) (t : Oc H S v d) : Ocs H S (vs ++ [v]) (ds ++ [d]) := h.append (.cons t .nil)
theorem Oc.put {D : Addr} {o : HO} (hD : S D) (h : Oc H S v d) : Oc (upd H D o) S v d := h.but fun b u n e => by
  rw [upd_ne (fun z => n (by rw [z]; exact hD))]; exact e
theorem Ocs.put {D : Addr} {o : HO} (hD : S D) (h : Ocs H S vs ds) : Ocs (upd H D o) S vs ds := h.but fun b u n e => by
  rw [upd_ne (fun z => n (by rw [z]; exact hD))]; exact e
theorem Lv.same (k : Same H H') (h : Lv H S) : Lv H' S := fun a ha z => by
  cases y : H a with
  | none => exact h a ha y
  | some o => rw [k _ _ y] at z; cases z
theorem Lv.add {D : Addr} {o : HO} (h : Lv H S) (hD : H D = none) : Lv (upd H D o) (And1 S D) := fun b hb z => by
  rcases hb with hb | hb
  · exact Lv.same (same_upd hD) h b hb z
  · subst hb; rw [upd_same] at z; cases z
theorem Lv.out {D : Addr} (h : Lv H S) (hD : H D = none) : ¬ S D := fun z => h D z hD
theorem Oc.arg {K : PySem.W.Frag} (h : Oc H S v d) (n : d.pl = true := by rfl) : Arg K H v (tyName d) := by
  cases h with
  | ins e ne hn all => cases n
  | non => exact .non
  | bl b => exact .bl b
  | int i => exact .int i
  | str s => exact .str s
  | lst e _ _ => exact .lst e
  | tup e _ _ =>
    cases e with
    | new e => exact .tup e
    | bare c d e => exact .ftup e
theorem Oc.lst_inv (h : Oc H S v (.lst ds)) : ∃ a xs, v = .ref a ∧ H a = some (.lst xs) ∧ ¬ S a ∧ Ocs H S xs ds := by
  cases h with
  | lst e ne all => exact ⟨_, _, rfl, e, ne, all⟩
theorem Oc.tup_inv {z : Bool} (h : Oc H S v (.tup z ds)) : ∃ a xs, v = .ref a ∧ Tp H a z xs ∧ ¬ S a ∧ Ocs H S xs ds := by
  cases h with
  | tup e ne all => exact ⟨_, _, rfl, e, ne, all⟩
theorem Oc.int_inv {i : Int} (h : Oc H S v (.int i)) : v = .int i := by cases h; rfl
theorem Oc.bl_inv {i : Bool} (h : Oc H S v (.bl i)) : v = .bl i := by cases h; rfl
theorem Oc.str_inv {i : Str} (h : Oc H S v (.str i)) : v = .str i := by cases h; rfl
theorem Ocs.ints : ∀ {vs : List V} {ns : List Int}, Ocs H S vs (ns.map Dt.int) → vs = ns.map V.int
  | _, [], .nil => rfl
  | _, n :: r, .cons h t => by rw [h.int_inv, Ocs.ints t]; rfl
theorem ocs_ints : ∀ ns : List Int, Ocs H S (ns.map V.int) (ns.map Dt.int)
  | [] => .nil
  | n :: r => .cons (.int n) (ocs_ints r)
theorem Ocs.strs : ∀ {vs : List V} {ns : List Str}, Ocs H S vs (ns.map Dt.str) → vs = ns.map V.str
  | _, [], .nil => rfl
  | _, n :: r, .cons h t => by rw [h.str_inv, Ocs.strs t]; rfl
theorem Ocs.bls : ∀ {vs : List V} {ns : List Bool}, Ocs H S vs (ns.map Dt.bl) → vs = ns.map V.bl
  | _, [], .nil => rfl
  | _, n :: r, .cons h t => by rw [h.bl_inv, Ocs.bls t]; rfl
end
mutual
theorem Oc.ob' {H : Hp} {S : AS} {p : Addr} (hp : S p) : ∀ {v : V} {d : Dt}, Oc H S v d → d.pl = true → Ob H p v d
  | _, _, .non, _ => .non
  | _, _, .bl b, _ => .bl b
  | _, _, .int i, _ => .int i
  | _, _, .str s, _ => .str s
  | _, _, .lst e ne all, n => .lst e (fun z => ne (z ▸ hp)) (Ocs.ob' hp all (by rw [Dt.pl] at n; exact n))
  | _, _, .tup e ne all, n => .tup e (fun z => ne (z ▸ hp)) (Ocs.ob' hp all (by rw [Dt.pl] at n; exact n))
  | _, _, .ins _ _ _ _, n => (nomatch n)
theorem Ocs.ob' {H : Hp} {S : AS} {p : Addr} (hp : S p) : ∀ {vs : List V} {ds : List Dt}, Ocs H S vs ds → Dt.plAll ds = true → Obs H p vs ds
  | _, _, .nil, _ => .nil
  | _, _, .cons h t, n => .cons (Oc.ob' hp h (by rw [Dt.plAll, Bool.and_eq_true] at n; exact n.1)) (Ocs.ob' hp t (by rw [Dt.plAll, Bool.and_eq_true] at n; exact n.2))
end
theorem Oc.ob {H : Hp} {S : AS} {p : Addr} {v : V} {d : Dt} (h : Oc H S v d) (hp : S p) (n : d.pl = true := by first | rfl | exact pl_ints _ | exact pl_strs _) : Ob H p v d := h.ob' hp n
theorem Oc.ins_inv {H : Hp} {S : AS} {v : V} {C : Addr} {ns : List Str} {ds : List Dt} (h : Oc H S v (.ins C ns ds)) : ∃ a dx fs, v = .ref a ∧ H a = some (.ins C dx fs) ∧ ¬ S a ∧ fs.map Prod.fst = ns ∧ Ocs H S (fs.map Prod.snd) ds := by
  cases h with
  | ins e ne hn all => exact ⟨_, _, _, rfl, e, ne, hn, all⟩
/-! ### from one place to a later one -/
structure Lift (H : Hp) (S : AS) (H1 : Hp) (S1 : AS) : Prop where
  ob : ∀ {u : V} {e : Dt}, Oc H S u e → Oc H1 S1 u e
  live : Lv H1 S1
  sub : ∀ a, S a → S1 a
  same : Same H H1
theorem Lift.refl {H : Hp} {S : AS} (l : Lv H S) : Lift H S H S := ⟨fun h => h, l, fun _ h => h, fun _ _ z => z⟩
theorem Lift.trans {H H1 H2 : Hp} {S S1 S2 : AS} (x : Lift H S H1 S1) (y : Lift H1 S1 H2 S2) : Lift H S H2 S2 := ⟨fun h => y.ob (x.ob h), y.live, fun a h => y.sub a (x.sub a h), x.same.trans y.same⟩
theorem Lift.then {H H1 H2 : Hp} {S S1 : AS} (x : Lift H S H1 S1) (k : Same H1 H2) : Lift H S H2 S1 := ⟨fun h => (x.ob h).same k, Lv.same k x.live, x.sub, x.same.trans k⟩
theorem Lift.new {H : Hp} {S : AS} {D : Addr} {o : HO} (l : Lv H S) (hD : H D = none) : Lift H S (upd H D o) (And1 S D) :=
  ⟨fun h => (h.add hD).put (.inr rfl), l.add hD, fun a h => .inl h, same_upd hD⟩
theorem Lift.obs {H H1 : Hp} {S S1 : AS} (x : Lift H S H1 S1) : ∀ {us : List V} {es : List Dt}, Ocs H S us es → Ocs H1 S1 us es
  | _, _, .nil => .nil
  | _, _, .cons h t => .cons (x.ob h) (Lift.obs x t)
/-- an expression that comes to the datum d, nothing changed -/
def DE (te : TE) (σ : L2.St) (H : Hp) (S : AS) (d : Dt) : Prop := ∀ (H1 : Hp) (S1 : AS) (Q : VK), Lift H S H1 S1 → (∀ v H2, Same H1 H2 → Oc H2 S1 v d → Q v H2) → te σ H1 Q
def DT (tt : TT) (σ : L2.St) (H : Hp) (S : AS) (b : Bool) : Prop := ∀ (H1 : Hp) (S1 : AS) (Q : Bool → Hp → Prop), Lift H S H1 S1 → (∀ H2, Same H1 H2 → Q b H2) → tt σ H1 Q
theorem DE.lift {te : TE} {σ : L2.St} {H H1 : Hp} {S S1 : AS} {d : Dt} (h : DE te σ H S d) (x : Lift H S H1 S1) : DE te σ H1 S1 d := fun H2 S2 Q y q => h H2 S2 Q (x.trans y) q
theorem DT.lift {te : TT} {σ : L2.St} {H H1 : Hp} {S S1 : AS} {d : Bool} (h : DT te σ H S d) (x : Lift H S H1 S1) : DT te σ H1 S1 d := fun H2 S2 Q y q => h H2 S2 Q (x.trans y) q
theorem DE.go {te : TE} {σ : L2.St} {H : Hp} {S : AS} {d : Dt} {Q : VK} (h : DE te σ H S d) (l : Lv H S) (q : ∀ v H2, Same H H2 → Oc H2 S v d → Q v H2) : te σ H Q := h H S Q (Lift.refl l) q
section
variable {σ : L2.St} {H : Hp} {S : AS} {K : PySem.W.Frag}
theorem D_var {i : Nat} {v : V} {d : Dt} (h : σ[i]? = some (some v)) (o : Oc H S v d) : DE (tVar i) σ H S d := fun H1 S1 Q x q => ⟨v, h, q _ _ (fun _ _ z => z) (x.ob o)⟩
theorem D_int (i : Int) : DE (tC (.int i)) σ H S (.int i) := fun H1 S1 Q x q => q _ _ (fun _ _ z => z) (.int i)
theorem D_str (i : Str) : DE (tC (.str i)) σ H S (.str i) := fun H1 S1 Q x q => q _ _ (fun _ _ z => z) (.str i)
theorem D_eq {te : TE} {d e : Dt} (h : DE te σ H S d) (z : d = e) : DE te σ H S e := z ▸ h
theorem D_add {ta tb : TE} {i j : Int} (ha : DE ta σ H S (.int i)) (hb : DE tb σ H S (.int j)) : DE (tOp (rI0 fun i j => .int (i + j)) ta tb) σ H S (.int (i + j)) := fun H1 S1 Q x q =>
  ha H1 S1 _ x fun v H2 k o => (hb.lift (x.then k)).go (Lv.same k x.live) fun u H3 k3 o3 => by
    rw [o.int_inv, o3.int_inv]
    exact ⟨i, j, rfl, rfl, q _ _ (k.trans k3) (.int _)⟩
theorem D_sub {ta tb : TE} {i j : Int} (ha : DE ta σ H S (.int i)) (hb : DE tb σ H S (.int j)) : DE (tOp (rI0 fun i j => .int (i - j)) ta tb) σ H S (.int (i - j)) := fun H1 S1 Q x q =>
  ha H1 S1 _ x fun v H2 k o => (hb.lift (x.then k)).go (Lv.same k x.live) fun u H3 k3 o3 => by
    rw [o.int_inv, o3.int_inv]
    exact ⟨i, j, rfl, rfl, q _ _ (k.trans k3) (.int _)⟩
/-- arguments -/
def DA (ta : TA) (σ : L2.St) (H : Hp) (S : AS) (ds : List Dt) : Prop := ∀ (H1 : Hp) (S1 : AS) (Q : List V → Hp → Prop), Lift H S H1 S1 → (∀ vs H2, Same H1 H2 → Ocs H2 S1 vs ds → Q vs H2) → ta σ H1 Q
theorem D_nil : DA tNil σ H S [] := fun H1 S1 Q x q => q _ _ (fun _ _ z => z) .nil
theorem D_cons {te : TE} {ta : TA} {d : Dt} {ds : List Dt} (h : DE te σ H S d) (t : DA ta σ H S ds) : DA (tCons te ta) σ H S (d :: ds) := fun H1 S1 Q x q =>
  h H1 S1 _ x fun v H2 k o => t H2 S1 _ (x.then k) fun vs H3 k3 o3 => q _ _ (k.trans k3) (.cons (o.same k3) o3)
/-- (a, ..) -/
theorem D_tup {ta : TA} {ds : List Dt} (h : DA ta σ H S ds) (hz : ds.length ≤ 1000) : DE (tTupF ta) σ H S (.tup true ds) := fun H1 S1 Q x q =>
  h H1 S1 _ x fun vs H2 k o => ⟨Nat.le_trans (show _ ≤ 1000 by rw [o.len]; exact hz) (by decide), fun p H3 hp k3 tp g => q _ _ (k.trans k3) (.tup tp (Lv.out (Lv.same k x.live) hp) (o.same k3))⟩
/-- [a, ..] -/
theorem D_lst {ta : TA} {ds : List Dt} (h : DA ta σ H S ds) (hz : ds.length ≤ 1000) : DE (tLst ta) σ H S (.lst ds) := fun H1 S1 Q x q =>
  h H1 S1 _ x fun vs H2 k o => ⟨Nat.le_trans (show _ ≤ 1000 by rw [o.len]; exact hz) (by decide), fun p hp => q _ _ (k.trans (same_upd hp)) (.lst upd_same (Lv.out (Lv.same k x.live) hp) (o.same (same_upd hp)))⟩
/-- t + u of tuples -/
theorem D_cat {ta tb : TE} {ds es : List Dt} (ha : DE ta σ H S (.tup true ds)) (hb : DE tb σ H S (.tup true es)) (hz : ds.length + es.length ≤ 1000) : DE (tOp (rCatF K) ta tb) σ H S (.tup true (ds ++ es)) := fun H1 S1 Q x q =>
  ha H1 S1 _ x fun v H2 k o => (hb.lift (x.then k)).go (Lv.same k x.live) fun u H3 k3 o3 => by
    obtain ⟨a, xs, rfl, ea, na, oa⟩ := o.tup_inv
    obtain ⟨b, ys, rfl, eb, nb, ob⟩ := o3.tup_inv
    have la := oa.len
    have lb := ob.len
    have oa' := oa.same k3
    refine ⟨a, b, xs, ys, rfl, rfl, (ea.same k3).sq, eb.sq, Nat.le_trans (show _ ≤ 1000 by omega) (by decide), fun e => ?_, fun e e2 => ?_, fun e e2 p H4 hp k4 tp g => ?_⟩
    · subst e
      cases oa
      exact q _ _ (k.trans k3) (.tup eb nb ob)
    · subst e2
      cases ob
      exact q _ _ (k.trans k3) (by rw [List.append_nil]; exact .tup (ea.same k3) na oa')
    · exact q _ _ ((k.trans k3).trans k4) (.tup tp (Lv.out (Lv.same k3 (Lv.same k x.live)) hp) ((oa'.append ob).same k4))
/-- tuple(a list) -/
theorem D_tupleOf {ta : TE} {ds : List Dt} (ha : DE ta σ H S (.lst ds)) : DE (tTupOfF K ta) σ H S (.tup true ds) := fun H1 S1 Q x q =>
  ha H1 S1 _ x fun v H2 k o => by
    obtain ⟨a, xs, rfl, ea, na, oa⟩ := o.lst_inv
    exact ⟨a, xs, rfl, SqL.of ea, fun p H3 hp k3 tp g => q _ _ (k.trans k3) (.tup tp (Lv.out (Lv.same k x.live) hp) (oa.same k3))⟩
/-! ### comprehensions -/
/-- one turn: what is put to the list, if anything is -/
def Turn1 (g : TG) (tt : TT) (te : TE) (vs : List Nat) (σ : L2.St) (x : V) (H : Hp) (S : AS) (r : Option Dt) : Prop :=
  ∀ (C : V → Hp → Prop) (N : Hp → Prop), (∀ y d H4, r = some d → Same H H4 → Oc H4 S y d → C y H4) → (∀ H4, r = none → Same H H4 → N H4) →
    g x (wipe σ vs) H fun σ2 H2 => wipe σ2 vs = wipe σ vs ∧ tt σ2 H2 fun b H3 => if b = true then te σ2 H3 C else N H3
theorem turn_map {te : TE} {i : Nat} {x : V} {d : Dt} (hw : wipe ((wipe σ [i]).set i (some x)) [i] = wipe σ [i]) (l : Lv H S) (h : DE te ((wipe σ [i]).set i (some x)) H S d) : Turn1 (gName i) tYes te [i] σ x H S (some d) := fun C N hc hn =>
  ⟨hw, h.go l fun v H2 k o => hc _ _ _ rfl k o⟩
theorem turn_test {te : TE} {tt : TT} {i : Nat} {x : V} {d : Dt} {b : Bool} (hw : wipe ((wipe σ [i]).set i (some x)) [i] = wipe σ [i]) (l : Lv H S) (ht : DT tt ((wipe σ [i]).set i (some x)) H S b) (h : b = true → DE te ((wipe σ [i]).set i (some x)) H S d) :
    Turn1 (gName i) tt te [i] σ x H S (if b = true then some d else none) := fun C N hc hn =>
  ⟨hw, ht H S _ (Lift.refl l) fun H2 k => by
    cases b with
    | true => exact ((h rfl).lift ((Lift.refl l).then k)).go (Lv.same k l) fun v H3 k3 o => hc _ _ _ rfl (k.trans k3) o
    | false => exact hn _ rfl k⟩
/-- what is made so far stands at D -/
structure Made (H2 : Hp) (S : AS) (D : Addr) (ds : List Dt) (H' : Hp) : Prop where
  same : Same H2 H'
  acc : ∃ vs, H' D = some (.lst vs) ∧ Ocs H' (And1 S D) vs ds
theorem Made.nil {H2 : Hp} {D : Addr} (hD : H2 D = none) : Made H2 S D [] (upd H2 D (.lst [])) := ⟨same_upd hD, [], upd_same, .nil⟩
theorem Made.lift {H2 H' : Hp} {D : Addr} {ds : List Dt} (l : Lv H2 S) (hD : H2 D = none) (m : Made H2 S D ds H') : Lift H2 S H' (And1 S D) := by
  refine ⟨fun h => (h.add hD).same m.same, fun a ha z => ?_, fun a h => .inl h, m.same⟩
  rcases ha with ha | ha
  · exact Lv.same m.same l a ha z
  · obtain ⟨vs, e, _⟩ := m.acc
    rw [ha, e] at z; cases z
theorem Made.step {H2 H' H4 : Hp} {D : Addr} {ds : List Dt} {y : V} {d : Dt} (hD : H2 D = none) (m : Made H2 S D ds H') (k : Same H' H4) (o : Oc H4 (And1 S D) y d) (hz : ds.length < 1000000) :
    ∃ acc, H4 D = some (.lst acc) ∧ acc.length < sizeLine ∧ Made H2 S D (ds ++ [d]) (upd H4 D (.lst (acc ++ [y]))) := by
  obtain ⟨vs, e, oc⟩ := m.acc
  refine ⟨vs, k _ _ e, Nat.lt_of_lt_of_le (show _ < 1000000 by rw [oc.len]; exact hz) (by decide), fun b o hb => ?_, _, upd_same, ((oc.same k).snoc o).put (.inr rfl)⟩
  rw [upd_ne (ne_of_none hb hD)]
  exact k _ _ (m.same _ _ hb)
theorem Made.done {H2 H' : Hp} {D : Addr} {ds : List Dt} (l : Lv H2 S) (hD : H2 D = none) (m : Made H2 S D ds H') : Oc H' S (.ref D) (.lst ds) := by
  obtain ⟨vs, e, oc⟩ := m.acc
  exact .lst e (Lv.out l hD) (oc.sub fun a h => .inl h)
theorem fm_len (ds : List Dt) (r : Dt → Option Dt) (i : Nat) (h : ds.length ≤ 999999) : ((ds.take i).filterMap r).length < 1000000 := by
  have := List.length_filterMap_le r (ds.take i)
  have := List.length_take_le i ds
  have := List.length_take_le' i ds
  omega
theorem fm_succ {ds : List Dt} {r : Dt → Option Dt} {i : Nat} {d : Dt} (h : ds[i]? = some d) : (ds.take (i + 1)).filterMap r = (ds.take i).filterMap r ++ (r d).toList := by
  rw [List.take_add_one, h, List.filterMap_append]
  show _ ++ List.filterMap r [d] = _
  cases e : r d <;> simp [List.filterMap, e]
section
variable {g : TG} {tt : TT} {te : TE} {vs : List Nat} {ds : List Dt} {r : Dt → Option Dt}
theorem D_lcL {tl : TE} (hl : DE tl σ H S (.lst ds)) (hz : ds.length ≤ 999999) (hs : ∀ v d H1 S1, d ∈ ds → Lift H S H1 S1 → Oc H1 S1 v d → Turn1 g tt te vs σ v H1 S1 (r d)) : DE (tLc (iList K tl) g tt te vs) σ H S (.lst (ds.filterMap r)) := fun H1 S1 Q x q =>
  hl H1 S1 _ x fun v H2 k o => by
    obtain ⟨a, xs, rfl, ea, na, oa⟩ := o.lst_inv
    have L2 := Lv.same k x.live
    refine ⟨a, rfl, ⟨_, SqL.of ea⟩, fun D hD => ?_⟩
    refine lc_list (K := K) (a := a) (xs := xs) (fun i H' => Made H2 S1 D ((ds.take i).filterMap r) H') (Made.nil hD) (fun i H' _ m => SqL.of (m.same _ _ ea)) ?_ ?_
    · intro i y H' hy m
      obtain ⟨d, hd, od⟩ := oa.get hy
      have lf := m.lift L2 hD
      refine hs y d H' _ (List.mem_of_getElem? hd) ((x.then k).trans lf) (lf.ob od) _ _ (fun z e H4 er k4 o4 => ?_) fun H4 er k4 => ?_
      · obtain ⟨acc, e1, e2, m2⟩ := m.step hD k4 o4 (fm_len ds r i hz)
        refine ⟨acc, e1, e2, ?_⟩
        rw [fm_succ hd, er]; exact m2
      · rw [fm_succ hd, er]
        show Made _ _ _ (_ ++ []) _
        rw [List.append_nil]
        obtain ⟨vs, e, oc⟩ := m.acc
        exact ⟨m.same.trans k4, vs, k4 _ _ e, oc.same k4⟩
    · intro H' m
      rw [oa.len, List.take_length] at m
      exact q _ _ (k.trans m.same) (m.done L2 hD)
theorem D_lcT {tl : TE} {z : Bool} (hl : DE tl σ H S (.tup z ds)) (hz : ds.length ≤ 999999) (hs : ∀ v d H1 S1, d ∈ ds → Lift H S H1 S1 → Oc H1 S1 v d → Turn1 g tt te vs σ v H1 S1 (r d)) : DE (tLc (iTup K tl) g tt te vs) σ H S (.lst (ds.filterMap r)) := fun H1 S1 Q x q =>
  hl H1 S1 _ x fun v H2 k o => by
    obtain ⟨a, xs, rfl, ea, na, oa⟩ := o.tup_inv
    have L2 := Lv.same k x.live
    refine ⟨a, rfl, ⟨_, ea.sq⟩, fun D hD => ?_⟩
    refine lc_tup (K := K) (a := a) (xs := xs) (fun i H' => Made H2 S1 D ((ds.take i).filterMap r) H') (Made.nil hD) (fun i H' _ m => (ea.same m.same).sq) ?_ ?_
    · intro i y H' hy m
      obtain ⟨d, hd, od⟩ := oa.get hy
      have lf := m.lift L2 hD
      refine hs y d H' _ (List.mem_of_getElem? hd) ((x.then k).trans lf) (lf.ob od) _ _ (fun z e H4 er k4 o4 => ?_) fun H4 er k4 => ?_
      · obtain ⟨acc, e1, e2, m2⟩ := m.step hD k4 o4 (fm_len ds r i hz)
        refine ⟨acc, e1, e2, ?_⟩
        rw [fm_succ hd, er]; exact m2
      · rw [fm_succ hd, er]
        show Made _ _ _ (_ ++ []) _
        rw [List.append_nil]
        obtain ⟨vs, e, oc⟩ := m.acc
        exact ⟨m.same.trans k4, vs, k4 _ _ e, oc.same k4⟩
    · intro H' m
      rw [oa.len, List.take_length] at m
      exact q _ _ (k.trans m.same) (m.done L2 hD)
end
/-- the ints below n -/
def upto (n : Nat) : List Dt := (List.range n).map fun i => Dt.int (i : Nat)
theorem upto_get {n i : Nat} (h : i < n) : (upto n)[i]? = some (.int (i : Nat)) := by
  unfold upto
  rw [List.getElem?_map, List.getElem?_range h]; rfl
theorem upto_len (n : Nat) : (upto n).length = n := by unfold upto; rw [List.length_map, List.length_range]
theorem D_lcR {g : TG} {tt : TT} {te tn : TE} {vs : List Nat} {n : Nat} {r : Dt → Option Dt} (hn : DE tn σ H S (.int (n : Nat))) (hz : n ≤ 999999) (hs : ∀ (i : Nat) H1 S1, i < n → Lift H S H1 S1 → Turn1 g tt te vs σ (.int (i : Nat)) H1 S1 (r (.int (i : Nat)))) : DE (tLc (iRng1 (tCons tn tNil)) g tt te vs) σ H S (.lst ((upto n).filterMap r)) := fun H1 S1 Q x q =>
  hn H1 S1 _ x fun v H2 k o => by
    have e := o.int_inv
    subst e
    have L2 := Lv.same k x.live
    refine ⟨_, rfl, by omega, by omega, fun D hD => ?_⟩
    have et : ((n : Nat) : Int).toNat = n := Int.toNat_natCast n
    rw [et]
    refine lc_range (lo := 0) (n := n) (fun i H' => Made H2 S1 D (((upto n).take i).filterMap r) H') (Made.nil hD) ?_ ?_
    · intro i H' hi m
      have lf := m.lift L2 hD
      rw [Int.zero_add]
      have hd := upto_get hi
      refine hs i H' _ hi ((x.then k).trans lf) _ _ (fun z e H4 er k4 o4 => ?_) fun H4 er k4 => ?_
      · obtain ⟨acc, e1, e2, m2⟩ := m.step hD k4 o4 (fm_len _ r i (by rw [upto_len]; exact hz))
        refine ⟨acc, e1, e2, ?_⟩
        rw [fm_succ hd, er]; exact m2
      · rw [fm_succ hd, er]
        show Made _ _ _ (_ ++ []) _
        rw [List.append_nil]
        obtain ⟨vs, e, oc⟩ := m.acc
        exact ⟨m.same.trans k4, vs, k4 _ _ e, oc.same k4⟩
    · intro H' m
      have e2 : (upto n).take n = upto n := List.take_of_length_le (by rw [upto_len]; exact Nat.le_refl _)
      rw [e2] at m
      exact q _ _ (k.trans m.same) (m.done L2 hD)
end
end Lc

namespace Lc
open PySem PySem.Spec PyProof.Rows L2 RZ PySem.W
section
variable {σ : L2.St} {H : Hp} {S : AS} {K : PySem.W.Frag}
/-! ### two clauses -/
theorem fm2_len (ds : List Dt) (f : Dt → List Dt) (h : ∀ d ∈ ds, (f d).length ≤ 500) : ∀ i, i ≤ 1000 → ((ds.take i).flatMap f).length ≤ i * 500
  | 0, _ => by simp
  | i + 1, hi => by
    have ih := fm2_len ds f h i (by omega)
    rw [List.take_add_one, List.flatMap_append, List.length_append]
    cases e : ds[i]? with
    | none => simp only [Option.toList_none, List.flatMap_nil, List.length_nil]; omega
    | some d =>
      have := h d (List.mem_of_getElem? e)
      simp only [Option.toList_some, List.flatMap_cons, List.flatMap_nil, List.append_nil]
      omega
theorem fm2_succ {ds : List Dt} {f : Dt → List Dt} {i : Nat} {d : Dt} (h : ds[i]? = some d) : (ds.take (i + 1)).flatMap f = (ds.take i).flatMap f ++ f d := by
  rw [List.take_add_one, h, List.flatMap_append]
  simp
theorem D_lc2LR {i0 i1 : Nat} {tt1 : TT} {te tl tn : TE} {ds : List Dt} {n : Dt → Nat} {r : Dt → Dt → Option Dt} (hl : DE tl σ H S (.lst ds)) (hz : ds.length ≤ 1000) (hz2 : ∀ d ∈ ds, n d ≤ 500)
    (hw : ∀ v : V, wipe ((wipe σ [i0, i1]).set i0 (some v)) [i0, i1] = wipe σ [i0, i1])
    (hn : ∀ v d H1 S1, d ∈ ds → Lift H S H1 S1 → Oc H1 S1 v d → DE tn ((wipe σ [i0, i1]).set i0 (some v)) H1 S1 (.int (n d : Nat)))
    (hs : ∀ v d H1 S1 (j : Nat), d ∈ ds → j < n d → Lift H S H1 S1 → Oc H1 S1 v d → Turn1 (gName i1) tt1 te [i1] ((wipe σ [i0, i1]).set i0 (some v)) (.int (j : Nat)) H1 S1 (r d (.int (j : Nat)))) :
    DE (tLc2 (iList K tl) (gName i0) tYes (iRng1 (tCons tn tNil)) (gName i1) tt1 te [i0, i1] [i1]) σ H S (.lst (ds.flatMap fun d => (upto (n d)).filterMap (r d))) := fun H1 S1 Q x q =>
  hl H1 S1 _ x fun v H2 k o => by
    obtain ⟨a, xs, rfl, ea, na, oa⟩ := o.lst_inv
    have L2 := Lv.same k x.live
    have hf : ∀ d ∈ ds, ((upto (n d)).filterMap (r d)).length ≤ 500 := fun d hd => by
      have h1 := List.length_filterMap_le (r d) (upto (n d))
      have h2 := hz2 d hd
      rw [upto_len] at h1
      omega
    refine ⟨a, rfl, ⟨_, SqL.of ea⟩, fun D hD => ?_⟩
    refine ⟨fun i m H' => m = xs.length - i ∧ i ≤ xs.length ∧ Made H2 S1 D ((ds.take i).flatMap fun d => (upto (n d)).filterMap (r d)) H', ⟨_, rfl, Nat.zero_le _, Made.nil hD⟩, ?_⟩
    rintro i m H' ⟨rfl, hi, md⟩
    by_cases lt : i < xs.length
    · have hy : xs[i]? = some xs[i] := List.getElem?_eq_getElem lt
      obtain ⟨d, hd, od⟩ := oa.get hy
      have dm := List.mem_of_getElem? hd
      refine .inr ⟨⟨xs, _, SqL.of (md.same _ _ ea), hy⟩, fun H3 => Made H2 S1 D ((ds.take (i + 1)).flatMap fun d => (upto (n d)).filterMap (r d)) H3, fun H3 h3 => ⟨_, by omega, rfl, lt, h3⟩, ?_⟩
      rintro y H3 ⟨rfl, fy⟩
      have ey : y = xs[i] := Option.some.inj ((fy _ (SqL.of (md.same _ _ ea))).symm.trans hy)
      subst ey
      have lf := md.lift L2 hD
      have lf2 := (x.then k).trans lf
      refine ⟨hw _, (hn _ d _ _ dm lf2 (lf.ob od)).go lf2.live fun u H4 k4 o4 => ?_⟩
      have eu := o4.int_inv
      subst eu
      have hb := hz2 d dm
      refine ⟨_, rfl, by omega, by omega, ?_⟩
      have et : ((n d : Nat) : Int).toNat = n d := Int.toNat_natCast _
      rw [et]
      refine ⟨fun j k H' => k = n d - j ∧ j ≤ n d ∧ Made H2 S1 D (((ds.take i).flatMap fun d => (upto (n d)).filterMap (r d)) ++ ((upto (n d)).take j).filterMap (r d)) H', ⟨_, rfl, Nat.zero_le _, ?_⟩, ?_⟩
      · obtain ⟨vs, e, oc⟩ := md.acc
        refine ⟨md.same.trans k4, vs, k4 _ _ e, ?_⟩
        simpa using oc.same k4
      rintro j kk H5 ⟨rfl, hj, md5⟩
      by_cases jl : j < n d
      · refine .inr ⟨jl, fun H6 => Made H2 S1 D (((ds.take i).flatMap fun d => (upto (n d)).filterMap (r d)) ++ ((upto (n d)).take (j + 1)).filterMap (r d)) H6, fun H6 h6 => ⟨_, by omega, rfl, jl, h6⟩, ?_⟩
        rintro y H6 ⟨rfl, rfl⟩
        rw [Int.zero_add]
        have lf5 := md5.lift L2 hD
        have hg := upto_get jl
        refine hs _ d _ _ j dm jl ((x.then k).trans lf5) (lf5.ob od) _ _ (fun z e H7 er k7 o7 => ?_) fun H7 er k7 => ?_
        · have sz : (((ds.take i).flatMap fun d => (upto (n d)).filterMap (r d)) ++ ((upto (n d)).take j).filterMap (r d)).length < 1000000 := by
            have h1 := fm2_len ds _ hf i (by rw [oa.len] at lt; omega)
            have h2 := List.length_filterMap_le (r d) ((upto (n d)).take j)
            have h3 := List.length_take_le j (upto (n d))
            rw [List.length_append]
            have h4 : i < 1000 := by rw [oa.len] at lt; omega
            have h5 : i * 500 ≤ 1000 * 500 := Nat.mul_le_mul_right _ (by omega)
            omega
          obtain ⟨acc, e1, e2, m2⟩ := md5.step hD k7 o7 sz
          refine ⟨acc, e1, e2, ?_⟩
          rw [fm_succ hg, er, ← List.append_assoc]; exact m2
        · rw [fm_succ hg, er]
          show Made _ _ _ (_ ++ (_ ++ [])) _
          rw [List.append_nil]
          obtain ⟨vs, e, oc⟩ := md5.acc
          exact ⟨md5.same.trans k7, vs, k7 _ _ e, oc.same k7⟩
      · have ej : j = n d := by omega
        subst ej
        refine .inl ⟨Nat.le_refl _, ?_⟩
        have e2 : (upto (n d)).take (n d) = upto (n d) := List.take_of_length_le (by rw [upto_len]; exact Nat.le_refl _)
        rw [e2] at md5
        rw [fm2_succ hd]; exact md5
    · have ei : i = xs.length := by omega
      subst ei
      rw [oa.len, List.take_length] at md
      exact .inl ⟨⟨xs, SqL.of (md.same _ _ ea), Nat.le_refl _⟩, q _ _ (k.trans md.same) (md.done L2 hD)⟩
end
/-! ### data that can be compared -/
mutual
def pd : Dt → PyData
  | .non => .none
  | .bl b => .bool b
  | .int i => .int i
  | .str s => .str s
  | .lst ds => .list (pdAll ds)
  | .tup _ ds => .tuple (pdAll ds)
  | .dic => .none
  | .ins _ _ _ => .none
def pdAll : List Dt → List PyData
  | [] => []
  | d :: r => pd d :: pdAll r
end
theorem pdAll_map : ∀ ds : List Dt, pdAll ds = ds.map pd
  | [] => rfl
  | d :: r => by rw [pdAll, pdAll_map r]; rfl
mutual
theorem Oc.dp' {K : PySem.W.Frag} {H : Hp} {S : AS} : ∀ {v : V} {d : Dt}, Oc H S v d → d.pl = true → Dp K H v (pd d)
  | _, _, .non, _ => .non
  | _, _, .bl b, _ => .bl b
  | _, _, .int i, _ => .int i
  | _, _, .str s, _ => .str s
  | _, _, .lst e ne all, n => .lst (SqL.of e) (Ocs.dp' all (by rw [Dt.pl] at n; exact n))
  | _, _, .tup e ne all, n => .tup e.sq (Ocs.dp' all (by rw [Dt.pl] at n; exact n))
  | _, _, .ins _ _ _ _, n => (nomatch n)
theorem Ocs.dp' {K : PySem.W.Frag} {H : Hp} {S : AS} : ∀ {vs : List V} {ds : List Dt}, Ocs H S vs ds → Dt.plAll ds = true → DpAll K H vs (pdAll ds)
  | _, _, .nil, _ => .nil
  | _, _, .cons h t, n => .cons (Oc.dp' h (by rw [Dt.plAll, Bool.and_eq_true] at n; exact n.1)) (Ocs.dp' t (by rw [Dt.plAll, Bool.and_eq_true] at n; exact n.2))
end
theorem pl_of_map {α : Type} {f : α → Dt} (h : ∀ a, (f a).pl = true) (l : List α) : Dt.plAll (l.map f) = true := by
  induction l with
  | nil => rfl
  | cons d r ih => rw [List.map_cons, Dt.plAll, ih, h]; rfl
theorem Oc.dp {K : PySem.W.Frag} {H : Hp} {S : AS} {v : V} {d : Dt} (h : Oc H S v d) (n : d.pl = true := by first | rfl | exact pl_ints _ | exact pl_strs _) : Dp K H v (pd d) := h.dp' n
theorem Ocs.dp {K : PySem.W.Frag} {H : Hp} {S : AS} {vs : List V} {ds : List Dt} (h : Ocs H S vs ds) (n : Dt.plAll ds = true := by first | rfl | exact pl_ints _ | exact pl_strs _ | (refine pl_of_map ?_ _; intro a; first | rfl | exact pl_ints _ | exact pl_strs _)) : DpAll K H vs (pdAll ds) := h.dp' n
def minL : List Int → Int
  | [] => 0
  | x :: r => r.foldl min x
def maxL : List Int → Int
  | [] => 0
  | x :: r => r.foldl max x
/-! ### min of a list, max of a tuple -/
def rMinD (K : PySem.W.Frag) : List V → Hp → VK → Prop := fun vs H Q => ∃ (a : Addr) (xs : List V) (d : PyData) (ds : List PyData), vs = [.ref a] ∧ SqL K H a xs ∧ DpAll K H xs (d :: ds) ∧ AlikeAll (d :: ds) ∧ PyData.depthAll (d :: ds) ≤ 16 ∧
  ∀ (i : Nat) (v : V), xs[i]? = some v → (d :: ds)[i]? = some (minD d ds) → Q v H
theorem dp_at {K : PySem.W.Frag} {H : Hp} : ∀ {vs : List V} {ds : List PyData} {i : Nat} {v : V}, DpAll K H vs ds → vs[i]? = some v → ∃ d, ds[i]? = some d ∧ Dp K H v d
  | _, _, _, _, .nil, e => by simp at e
  | _, _, 0, _, .cons h _, e => by
    have e := Option.some.inj (show some _ = some _ from e)
    subst e; exact ⟨_, rfl, h⟩
  | _, _, i + 1, x, .cons _ t, e => dp_at (i := i) t (by simpa using e)
theorem vals_at : ∀ {vs : List V} {us : List Value} {i : Nat} {u : Value}, Vals vs us → us[i]? = some u → ∃ v, vs[i]? = some v ∧ RelV v u
  | _, _, _, _, .nil, e => by simp at e
  | _, _, 0, _, .cons h _, e => by
    have e := Option.some.inj (show some _ = some _ from e)
    subst e; exact ⟨_, rfl, h⟩
  | _, _, i + 1, x, .cons _ t, e => vals_at (i := i) t (by simpa using e)
theorem cr_minD {X : Cx} (K : PySem.W.Frag) (hc : X.calm = true) (hu : X.A.units + 64 < cLine) (h : X.K = K := by rfl) : CallR X (.builtin "min") (rMinD K) := by
  subst h
  intro pins s σ H vs us Q I r h
  obtain ⟨a, xs, d, ds, rfl, hs, hd, al, dp, q⟩ := h
  obtain ⟨its, rv, pl, hz⟩ := I.list hs
  obtain ⟨as, ra⟩ := Dp.readsAll I _ _ _ hd rv
  rw [Vals.ref1 r]
  refine min_list_data (I.ok.hd hc) pl.isList (by simpa using ra) al (by omega) fun i v h' tk bs hv hr hk => ?_
  have hv' : its[i]? = some v := by rw [← hv]; simp
  obtain ⟨y, hy, ry⟩ := vals_at rv hv'
  obtain ⟨e, he, de⟩ := dp_at hd hy
  obtain ⟨cs, re⟩ := Dp.reads I _ _ _ de ry
  have ee := (PySem.Reads.unique (reads_keeps hk re) _ _ hr).1
  subst ee
  exact ⟨y, H, I.kept (t' := tk) hk, ry, q i y hy he⟩
def rMaxT (K : PySem.W.Frag) : List V → Hp → VK → Prop := fun vs H Q => ∃ (a : Addr) (n : Int) (ns : List Int), vs = [.ref a] ∧ SqT K H a ((n :: ns).map V.int) ∧ Q (.int (ns.foldl max n)) H
theorem alike_int_all (ns : List Int) : AlikeAll (ns.map PyData.int) := by
  refine ⟨fun x hx y hy => ?_, fun x hx => ?_⟩
  · obtain ⟨i, _, rfl⟩ := List.mem_map.mp hx
    obtain ⟨j, _, rfl⟩ := List.mem_map.mp hy
    rfl
  · obtain ⟨i, _, rfl⟩ := List.mem_map.mp hx
    exact fun z => nomatch z
theorem dp_ints {K : PySem.W.Frag} {H : Hp} : ∀ ns : List Int, DpAll K H (ns.map V.int) (ns.map PyData.int)
  | [] => .nil
  | n :: r => .cons (.int n) (dp_ints r)
theorem cr_maxT {X : Cx} (K : PySem.W.Frag) (hc : X.calm = true) (hu : X.A.units + 64 < cLine) (h : X.K = K := by rfl) : CallR X (.builtin "max") (rMaxT K) := by
  subst h
  intro pins s σ H vs us Q I r h
  obtain ⟨a, n, ns, rfl, hs, q⟩ := h
  obtain ⟨its, rv, pl, hz⟩ := I.tuple hs
  obtain ⟨as, ra⟩ := Dp.readsAll I ((n :: ns).map .int) _ _ (dp_ints _) rv
  rw [Vals.ref1 r]
  have dz : PyData.depthAll (PyData.int n :: ns.map PyData.int) = 0 := depth_ints (n :: ns)
  refine max_tuple_data (x := .int n) (xs := ns.map .int) (I.ok.hd hc) pl (by simpa using ra) (alike_int_all (n :: ns)) (by rw [dz]; omega) fun i v h' tk bs hv hr hk => ?_
  rw [maxD_ints] at hr
  obtain ⟨t, rfl, _⟩ := reads_int_inv hr
  exact ⟨.int _, H, I.kept (t' := tk) hk, ⟨t, rfl⟩, q⟩
/-! ### rows of ints -/
def intT' (ns : List Int) : Dt := .tup true (ns.map Dt.int)
def intP (ns : List Int) : PyData := .tuple (ns.map PyData.int)
theorem pd_intT (ns : List Int) : pd (intT' ns) = intP ns := by
  show PyData.tuple (pdAll (ns.map Dt.int)) = _
  rw [pdAll_map, List.map_map]; rfl
def ltI : List Int → List Int → Bool
  | [], [] => false
  | [], _ :: _ => true
  | _ :: _, [] => false
  | x :: r, y :: t => decide (x < y) || (decide (x = y) && ltI r t)
theorem toks_intP (ns : List Int) : keyToks (intP ns) = keyToksAll (ns.map PyData.int) := by unfold intP; rw [keyToks]
theorem lt_toks : ∀ a b : List Int, PyProof.Rows.lexLt itemOrd (keyToksAll (a.map PyData.int)) (keyToksAll (b.map PyData.int)) = ltI a b
  | [], [] => by decide
  | [], y :: t => by
    rw [List.map_nil, List.map_cons, toks_all_cons, keyToksAll, lex_diff (O := itemOrd) (by intro z; cases z)]
    rfl
  | x :: r, [] => by
    rw [List.map_nil, List.map_cons, toks_all_cons, keyToksAll, lex_diff (O := itemOrd) (by intro z; cases z)]
    rfl
  | x :: r, y :: t => by
    rw [List.map_cons, List.map_cons, toks_all_cons, toks_all_cons, lex_self (O := itemOrd), keyToks, keyToks]
    show PyProof.Rows.lexLt itemOrd (Sum.inl x :: keyToksAll (r.map PyData.int)) (Sum.inl y :: keyToksAll (t.map PyData.int)) = _
    by_cases e : x = y
    · subst e
      rw [lex_self (O := itemOrd), lt_toks r t]
      simp [ltI]
    · rw [lex_diff (O := itemOrd) (fun z => e (Sum.inl.inj z))]
      show decide (x < y) = _
      simp [ltI, e]
theorem lt_rows (a b : List Int) : dataLt (intP a) (intP b) = ltI a b := by
  unfold dataLt
  rw [toks_intP, toks_intP, lt_toks]
def minR (x : List Int) (xs : List (List Int)) : List Int := xs.foldl (fun a y => if ltI y a then y else a) x
theorem min_rows (x : List Int) : ∀ xs : List (List Int), minD (intP x) (xs.map intP) = intP (minR x xs) := by
  intro xs
  unfold minD minR
  induction xs generalizing x with
  | nil => rfl
  | cons y r ih =>
    rw [List.map_cons, List.foldl_cons, List.foldl_cons, lt_rows]
    by_cases h : ltI y x = true
    · rw [if_pos h, if_pos h]; exact ih y
    · rw [if_neg h, if_neg h]; exact ih x
theorem alike_rows (rows : List (List Int)) : AlikeAll (rows.map intP) := by
  refine ⟨fun x hx y hy => ?_, fun x hx => ?_⟩
  · obtain ⟨i, _, rfl⟩ := List.mem_map.mp hx
    obtain ⟨j, _, rfl⟩ := List.mem_map.mp hy
    show alike (.tuple _) (.tuple _) = true
    rw [alike]; exact alike_ints i j
  · obtain ⟨i, _, rfl⟩ := List.mem_map.mp hx
    exact fun z => nomatch z
theorem depth_rows : ∀ rows : List (List Int), PyData.depthAll (rows.map intP) ≤ 1
  | [] => by simp [PyData.depthAll]
  | x :: r => by
    rw [List.map_cons, PyData.depthAll]
    have h := depth_rows r
    have h2 : PyData.depth (intP x) = 1 := by unfold intP; rw [PyData.depth, depth_ints]
    omega
theorem intP_inj {a b : List Int} (h : intP a = intP b) : a = b := by
  have h1 := PyData.tuple.inj h
  induction a generalizing b with
  | nil =>
    cases b with
    | nil => rfl
    | cons y t => simp at h1
  | cons x r ih =>
    cases b with
    | nil => simp at h1
    | cons y t =>
      simp only [List.map_cons, List.cons.injEq, PyData.int.injEq] at h1
      rw [h1.1, ih (by unfold intP; rw [h1.2]) h1.2]
theorem ocs_rows_dp {K : PySem.W.Frag} {H : Hp} {S : AS} {xs : List V} {rows : List (List Int)} (h : Ocs H S xs (rows.map intT')) : DpAll K H xs (rows.map intP) := by
  have := h.dp (K := K)
  rw [pdAll_map, List.map_map] at this
  have e : (rows.map (pd ∘ intT')) = rows.map intP := List.map_congr_left fun x _ => pd_intT x
  rw [e] at this
  exact this
theorem D_minRows {σ : L2.St} {H : Hp} {S : AS} {K : PySem.W.Frag} {tl : TE} {x : List Int} {xs : List (List Int)} (hl : DE tl σ H S (.lst ((x :: xs).map intT'))) : DE (tCB (rMinD K) (tCons tl tNil)) σ H S (intT' (minR x xs)) := fun H1 S1 Q y q =>
  hl H1 S1 _ y fun v H2 k o => by
    obtain ⟨a, ys, rfl, ea, na, oa⟩ := o.lst_inv
    refine ⟨a, ys, intP x, xs.map intP, rfl, SqL.of ea, ocs_rows_dp oa, alike_rows (x :: xs), Nat.le_trans (depth_rows (x :: xs)) (by decide), fun i v hv hm => ?_⟩
    obtain ⟨d, hd, od⟩ := oa.get hv
    rw [List.getElem?_map] at hd
    obtain ⟨row, hr, rfl⟩ := Option.map_eq_some_iff.mp hd
    have hm2 : ((x :: xs).map intP)[i]? = some (minD (intP x) (xs.map intP)) := hm
    rw [List.getElem?_map, hr, min_rows] at hm2
    have e := intP_inj (Option.some.inj hm2)
    subst e
    exact q _ _ k od
/-! ### == of data -/
theorem op_eqDK {X : Cx} (K : PySem.W.Frag) (hu : X.A.units + 64 < cLine) (h : X.K = K := by rfl) : OpR X (compareOp .Eq) (rEqD K) := h ▸ op_eqD hu
theorem op_neDK {X : Cx} (K : PySem.W.Frag) (hu : X.A.units + 64 < cLine) (h : X.K = K := by rfl) : OpR X (compareOp .NotEq) (rNeD K) := h ▸ op_neD hu
theorem op_ninK {X : Cx} (K : PySem.W.Frag) (h : X.K = K := by rfl) : OpR X (compareOp .NotIn) (rIn K true) := h ▸ op_notIn_seq
theorem op_inK {X : Cx} (K : PySem.W.Frag) (h : X.K = K := by rfl) : OpR X (compareOp .In) (rIn K false) := h ▸ op_in_seq
theorem shaped_row (a : List Int) : SeqAt.shaped (intP a) = true := by
  unfold SeqAt.shaped intP
  have e : PyData.canLayAll0 (a.map PyData.int) = true := by
    induction a with
    | nil => rfl
    | cons x r ih => rw [List.map_cons, PyData.canLayAll0, ih]; rfl
  rw [PyData.canLay0, e, PyData.depth, depth_ints]; rfl
theorem eqv_ints : ∀ a b : List Int, PyData.eqvAll (a.map PyData.int) (b.map PyData.int) = decide (a = b)
  | [], [] => by decide
  | [], y :: t => by simp [PyData.eqvAll]
  | x :: r, [] => by simp [PyData.eqvAll]
  | x :: r, y :: t => by
    rw [List.map_cons, List.map_cons, eqv_all_cons, eqv_ints r t]
    by_cases h : x = y
    · subst h
      have : PyData.eqv (.int x) (.int x) = true := by simp [PyData.eqv]
      rw [this]; simp
    · have : PyData.eqv (.int x) (.int y) = false := by simp [PyData.eqv, h]
      rw [this]; simp [h]
theorem eqv_rows (a b : List Int) : PyData.eqv (intP a) (intP b) = decide (a = b) := by
  unfold intP
  rw [PyData.eqv, eqv_ints]
theorem T_eqRow {σ : L2.St} {H : Hp} {S : AS} {K : PySem.W.Frag} {ta tb : TE} {a b : List Int} (ha : DE ta σ H S (intT' a)) (hb : DE tb σ H S (intT' b)) : DT (tTest (tOp (rEqD K) ta tb)) σ H S (decide (a = b)) := fun H1 S1 Q x q =>
  ha H1 S1 _ x fun v H2 k o => (hb.lift (x.then k)).go (Lv.same k x.live) fun u H3 k3 o3 => by
    have e1 := (o.same k3).dp (K := K)
    have e2 := o3.dp (K := K)
    rw [pd_intT] at e1 e2
    refine ⟨_, _, e1, e2, shaped_row a, shaped_row b, _, rfl, ?_⟩
    rw [eqv_rows]
    exact q _ (k.trans k3)
theorem op_catFK {X : Cx} (K : PySem.W.Frag) (h : X.K = K := by rfl) : OpR X (binaryOp .Add) (rCatF K) := h ▸ op_catF
theorem pi_listK {X : Cx} (K : PySem.W.Frag) {tg l : Expr} {tl : TE} (hl : PE X l tl) (h : X.K = K := by rfl) : PI X tg l (iList K tl) := h ▸ pi_list hl
theorem pi_tupK {X : Cx} (K : PySem.W.Frag) {tg l : Expr} {tl : TE} (hl : PE X l tl) (h : X.K = K := by rfl) : PI X tg l (iTup K tl) := h ▸ pi_tup hl
theorem pe_tupleOfFK {X : Cx} (K : PySem.W.Frag) {a : Expr} {ta : TE} {p pos : Pos} (hg : Gl X "tuple") (hm : X.mg "tuple" = none) (ha : PE X a ta) (h : X.K = K := by rfl) (na : starEach [a] X.env = (false, eval a X.env) :: starEach [] X.env := by rfl) : PE X (.Call (.Name "tuple" p) [a] [] pos) (tTupOfF K ta) := h ▸ pe_tupleOfF hg hm ha na
theorem cr_allK {X : Cx} (K : PySem.W.Frag) (hc : X.calm = true) (h : X.K = K := by rfl) : CallR X (.builtin "all") (rAll K) := h ▸ cr_all hc
theorem cr_anyK {X : Cx} (K : PySem.W.Frag) (hc : X.calm = true) (h : X.K = K := by rfl) : CallR X (.builtin "any") (rAny K) := h ▸ cr_any hc
theorem minL_of {ns : List Int} {m : Int} (hm : m ∈ ns) (h : ∀ y ∈ ns, m ≤ y) : m = minL ns := by
  cases ns with
  | nil => cases hm
  | cons x r =>
    have key : ∀ (r : List Int) (x : Int), (r.foldl min x ∈ x :: r) ∧ ∀ y ∈ x :: r, r.foldl min x ≤ y := by
      intro r
      induction r with
      | nil => intro x; exact ⟨List.mem_singleton.mpr rfl, fun y hy => by rw [List.mem_singleton.mp hy]; exact Int.le_refl _⟩
      | cons z t ih =>
        intro x
        obtain ⟨a, b⟩ := ih (min x z)
        rw [List.foldl_cons]
        refine ⟨?_, fun y hy => ?_⟩
        · rcases List.mem_cons.mp a with e | e
          · rcases Int.le_total x z with h | h
            · rw [e, Int.min_eq_left h]; exact List.mem_cons_self
            · rw [e, Int.min_eq_right h]; exact List.mem_cons_of_mem _ List.mem_cons_self
          · exact List.mem_cons_of_mem _ (List.mem_cons_of_mem _ e)
        · have hb := b _ List.mem_cons_self
          rcases List.mem_cons.mp hy with rfl | hy
          · omega
          · rcases List.mem_cons.mp hy with rfl | hy
            · omega
            · exact b _ (List.mem_cons_of_mem _ hy)
    obtain ⟨a, b⟩ := key r x
    show m = r.foldl min x
    have h1 := h _ a
    have h2 := b _ hm
    omega
theorem D_minInts {σ : L2.St} {H : Hp} {S : AS} {K : PySem.W.Frag} {tl : TE} {ns : List Int} (hl : DE tl σ H S (.lst (ns.map Dt.int))) (hne : ns ≠ []) : DE (tCB (rMin K) (tCons tl tNil)) σ H S (.int (minL ns)) := fun H1 S1 Q y q =>
  hl H1 S1 _ y fun v H2 k o => by
    obtain ⟨a, ys, rfl, ea, na, oa⟩ := o.lst_inv
    have e := oa.ints
    subst e
    refine ⟨a, ns, rfl, SqL.of ea, List.length_pos_iff.mpr hne, fun m hm hle => ?_⟩
    rw [minL_of hm hle]
    exact q _ _ k (.int _)
theorem D_fn {sp : Sp} {E : XK} {ta : TA} {σ : L2.St} {H : Hp} {S : AS} {ds : List Dt} {d : Dt} (ha : DA ta σ H S ds) (h : ∀ H1 S1 vs (Q : VK), Lift H S H1 S1 → Ocs H1 S1 vs ds → (∀ v H2, Same H1 H2 → Oc H2 S1 v d → Q v H2) → sp vs H1 Q E) : DE (tCall sp [] E ta) σ H S d := fun H1 S1 Q x q =>
  ha H1 S1 _ x fun vs H2 k o => by
    show sp (vs ++ []) H2 Q E
    rw [List.append_nil]
    exact h H2 S1 vs Q (x.then k) o fun v H3 k3 o3 => q _ _ (k.trans k3) o3
theorem Ocs.one {H : Hp} {S : AS} {vs : List V} {d : Dt} (h : Ocs H S vs [d]) : ∃ v, vs = [v] ∧ Oc H S v d := by
  cases h with
  | cons h t => cases t; exact ⟨_, rfl, h⟩
theorem Ocs.two {H : Hp} {S : AS} {vs : List V} {d e : Dt} (h : Ocs H S vs [d, e]) : ∃ v u, vs = [v, u] ∧ Oc H S v d ∧ Oc H S u e := by
  cases h with
  | cons h t =>
    obtain ⟨u, rfl, o⟩ := t.one
    exact ⟨_, _, rfl, h, o⟩
theorem Ocs.three {H : Hp} {S : AS} {vs : List V} {d e f : Dt} (h : Ocs H S vs [d, e, f]) : ∃ v u x, vs = [v, u, x] ∧ Oc H S v d ∧ Oc H S u e ∧ Oc H S x f := by
  cases h with
  | cons h t =>
    obtain ⟨u, x, rfl, o, p⟩ := t.two
    exact ⟨_, _, _, rfl, h, o, p⟩
theorem le_maxL {ns : List Int} {m : Int} (hm : m ∈ ns) : m ≤ maxL ns := by
  cases ns with
  | nil => cases hm
  | cons x r =>
    have key : ∀ (r : List Int) (x : Int), ∀ y ∈ x :: r, y ≤ r.foldl max x := by
      intro r
      induction r with
      | nil => intro x y hy; rw [List.mem_singleton.mp hy]; exact Int.le_refl _
      | cons z t ih =>
        intro x y hy
        have b := ih (max x z)
        rw [List.foldl_cons]
        have hb := b _ List.mem_cons_self
        rcases List.mem_cons.mp hy with rfl | hy
        · omega
        · rcases List.mem_cons.mp hy with rfl | hy
          · omega
          · exact b _ (List.mem_cons_of_mem _ hy)
    exact key r x m hm
theorem D_maxInts {σ : L2.St} {H : Hp} {S : AS} {K : PySem.W.Frag} {tl : TE} {ns : List Int} {m : Nat} (hl : DE tl σ H S (intT' ns)) (hm : maxL ns = m) (hne : ns ≠ [] := by first | assumption | (rintro rfl; simp_all)) : DE (tCB (rMaxT K) (tCons tl tNil)) σ H S (.int (m : Nat)) := fun H1 S1 Q y q =>
  hl H1 S1 _ y fun v H2 k o => by
    obtain ⟨a, ys, rfl, ea, na, oa⟩ := o.tup_inv
    have e := oa.ints
    subst e
    cases ns with
    | nil => exact absurd rfl hne
    | cons x r => exact ⟨a, x, r, rfl, ea.sq, q _ _ k (by rw [← hm]; exact .int _)⟩
theorem D_catL {σ : L2.St} {H : Hp} {S : AS} {ta tb : TE} {ds es : List Dt} (ha : DE ta σ H S (.lst ds)) (hb : DE tb σ H S (.lst es)) (hz : ds.length + es.length ≤ 1000000) : DE (tOp rCat ta tb) σ H S (.lst (ds ++ es)) := fun H1 S1 Q x q =>
  ha H1 S1 _ x fun v H2 k o => (hb.lift (x.then k)).go (Lv.same k x.live) fun u H3 k3 o3 => by
    obtain ⟨a, xs, rfl, ea, na, oa⟩ := o.lst_inv
    obtain ⟨b, ys, rfl, eb, nb, ob⟩ := o3.lst_inv
    have la := oa.len
    have lb := ob.len
    have oa' := oa.same k3
    refine ⟨a, b, xs, ys, rfl, rfl, k3 _ _ ea, eb, Nat.le_trans (show _ ≤ 1000000 by omega) (by decide), fun p hp => ?_⟩
    exact q _ _ ((k.trans k3).trans (same_upd hp)) (.lst upd_same (Lv.out (Lv.same k3 (Lv.same k x.live)) hp) ((oa'.append ob).same (same_upd hp)))
theorem fl_len {α : Type} (ds : List α) (f : α → List (List Int)) (m : Nat) (h : ∀ d ∈ ds, (f d).length ≤ m) : (ds.flatMap f).length ≤ ds.length * m := by
  induction ds with
  | nil => simp
  | cons d r ih =>
    have h1 := ih fun y hy => h y (List.mem_cons_of_mem _ hy)
    have h2 := h d List.mem_cons_self
    rw [List.flatMap_cons, List.length_append, List.length_cons, Nat.succ_mul]
    omega
theorem D_call {te : TE} {σ : L2.St} {H : Hp} {S : AS} {d : Dt} (h : ∀ (H1 : Hp) (S1 : AS) (Q : VK), Lift H S H1 S1 → (∀ v H2, Same H1 H2 → Oc H2 S1 v d → Q v H2) → te σ H1 Q) : DE te σ H S d := h
theorem S_setQ {te : TE} {i : Nat} {σ : L2.St} {H : Hp} {u : TS} {D : Ends} (h : te σ H fun v H2 => u D (σ.set i (some v)) H2) : tSeq (tAsg te (gName i)) u D σ H := h
/-- >= of data -/
def rGeD (K : PySem.W.Frag) : R2 := fun x y H Q => ∃ d e, Dp K H x d ∧ Dp K H y e ∧ alike d e = true ∧ d ≠ .none ∧ min d.depth e.depth ≤ 32 ∧ Q (.bl (!dataLt d e)) H
theorem op_geD {X : Cx} (K : PySem.W.Frag) (hu : X.A.units + 64 < cLine) (h : X.K = K := by rfl) : OpR X (compareOp .GtE) (rGeD K) := by
  subst h
  intro pins s σ H x y v u Q I rx ry h
  obtain ⟨d, e, hd, he, al, nn, dp, q⟩ := h
  obtain ⟨as, r1⟩ := Dp.reads I d x v hd rx
  obtain ⟨bs, r2⟩ := Dp.reads I e y u he ry
  exact ge_data r1 r2 al nn (by omega) ⟨.bl _, H, I, rfl, q⟩
theorem op_inDK {X : Cx} (K : PySem.W.Frag) (hu : X.A.units + 65 < cLine) (h : X.K = K := by rfl) : OpR X (compareOp .In) (rInD K) := h ▸ op_inD hu
theorem any_rows (a : List Int) : ∀ rows : List (List Int), ((rows.map intP).any fun z => PyData.eqv z (intP a)) = decide (a ∈ rows)
  | [] => rfl
  | r :: t => by
    rw [List.map_cons, List.any_cons, any_rows a t, eqv_rows]
    by_cases h : r = a
    · subst h; simp
    · have h2 : ¬ a = r := fun z => h z.symm
      simp [h, h2]
theorem shaped_rows (rows : List (List Int)) : SeqAt.shaped (.list (rows.map intP)) = true := by
  unfold SeqAt.shaped
  have e : PyData.canLayAll0 (rows.map intP) = true := by
    induction rows with
    | nil => rfl
    | cons x r ih =>
      rw [List.map_cons, PyData.canLayAll0, ih]
      have h := shaped_row x
      unfold SeqAt.shaped at h
      rw [Bool.and_eq_true] at h
      rw [h.1]; rfl
  have d := depth_rows rows
  rw [PyData.canLay0, e, PyData.depth, Bool.true_and, decide_eq_true_eq]
  omega
theorem T_inRows {σ : L2.St} {H : Hp} {S : AS} {K : PySem.W.Frag} {ta tb : TE} {a : List Int} {rows : List (List Int)} (ha : DE ta σ H S (intT' a)) (hb : DE tb σ H S (.lst (rows.map intT'))) : DT (tTest (tOp (rInD K) ta tb)) σ H S (decide (a ∈ rows)) := fun H1 S1 Q x q =>
  ha H1 S1 _ x fun v H2 k o => (hb.lift (x.then k)).go (Lv.same k x.live) fun u H3 k3 o3 => by
    have e1 := (o.same k3).dp (K := K)
    rw [pd_intT] at e1
    obtain ⟨b, ys, rfl, eb, nb, ob⟩ := o3.lst_inv
    refine ⟨intP a, rows.map intP, e1, .lst (SqL.of eb) (ocs_rows_dp ob), shaped_row a, shaped_rows rows, _, rfl, ?_⟩
    rw [any_rows]
    exact q _ (k.trans k3)
theorem units65 {k : Nat} {A : Around} (r : Room k A) : A.units + 65 < cLine := by have := r.un; omega
theorem eqv_lrows : ∀ a b : List (List Int), PyData.eqvAll (a.map intP) (b.map intP) = decide (a = b)
  | [], [] => by decide
  | [], y :: t => by simp [PyData.eqvAll]
  | x :: r, [] => by simp [PyData.eqvAll]
  | x :: r, y :: t => by
    rw [List.map_cons, List.map_cons, eqv_all_cons, eqv_lrows r t, eqv_rows]
    by_cases h : x = y
    · subst h; simp
    · simp [h]
theorem eqv_lists (a b : List (List Int)) : PyData.eqv (.list (a.map intP)) (.list (b.map intP)) = decide (a = b) := by rw [PyData.eqv, eqv_lrows]
theorem Oc.rows_dp {H : Hp} {S : AS} {K : PySem.W.Frag} {v : V} {rows : List (List Int)} (h : Oc H S v (.lst (rows.map intT'))) : Dp K H v (.list (rows.map intP)) := by
  obtain ⟨a, xs, rfl, ea, na, oa⟩ := h.lst_inv
  exact .lst (SqL.of ea) (ocs_rows_dp oa)
theorem D_eqL {σ : L2.St} {H : Hp} {S : AS} {K : PySem.W.Frag} {ta tb : TE} {a b : List (List Int)} (ha : DE ta σ H S (.lst (a.map intT'))) (hb : DE tb σ H S (.lst (b.map intT'))) : DE (tOp (rEqD K) ta tb) σ H S (.bl (decide (a = b))) := fun H1 S1 Q x q =>
  ha H1 S1 _ x fun v H2 k o => (hb.lift (x.then k)).go (Lv.same k x.live) fun u H3 k3 o3 => by
    refine ⟨_, _, (o.same k3).rows_dp, o3.rows_dp, shaped_rows a, shaped_rows b, ?_⟩
    rw [eqv_lists]
    exact q _ _ (k.trans k3) (.bl _)
theorem T_neRow {σ : L2.St} {H : Hp} {S : AS} {K : PySem.W.Frag} {ta tb : TE} {a b : List Int} (ha : DE ta σ H S (intT' a)) (hb : DE tb σ H S (intT' b)) : DT (tTest (tOp (rNeD K) ta tb)) σ H S (!decide (a = b)) := fun H1 S1 Q x q =>
  ha H1 S1 _ x fun v H2 k o => (hb.lift (x.then k)).go (Lv.same k x.live) fun u H3 k3 o3 => by
    have e1 := (o.same k3).dp (K := K)
    have e2 := o3.dp (K := K)
    rw [pd_intT] at e1 e2
    refine ⟨_, _, e1, e2, shaped_row a, shaped_row b, _, rfl, ?_⟩
    rw [eqv_rows]
    exact q _ (k.trans k3)
theorem DT.go {tt : TT} {σ : L2.St} {H : Hp} {S : AS} {b : Bool} {Q : Bool → Hp → Prop} (h : DT tt σ H S b) (l : Lv H S) (q : ∀ H2, Same H H2 → Q b H2) : tt σ H Q := h H S Q (Lift.refl l) q
theorem T_geRow {σ : L2.St} {H : Hp} {S : AS} {K : PySem.W.Frag} {ta tb : TE} {a b : List Int} (ha : DE ta σ H S (intT' a)) (hb : DE tb σ H S (intT' b)) : DT (tTest (tOp (rGeD K) ta tb)) σ H S (!ltI a b) := fun H1 S1 Q x q =>
  ha H1 S1 _ x fun v H2 k o => (hb.lift (x.then k)).go (Lv.same k x.live) fun u H3 k3 o3 => by
    have e1 := (o.same k3).dp (K := K)
    have e2 := o3.dp (K := K)
    rw [pd_intT] at e1 e2
    refine ⟨_, _, e1, e2, (alike_rows [a, b]).1 _ (by simp) _ (by simp), fun z => (by unfold intP at z; exact nomatch z), ?_, _, rfl, ?_⟩
    · have h2 : PyData.depth (intP a) = 1 := by unfold intP; rw [PyData.depth, depth_ints]
      omega
    · rw [lt_rows]
      exact q _ (k.trans k3)
theorem S_set {te : TE} {i : Nat} {σ : L2.St} {H : Hp} {S : AS} {d : Dt} {u : TS} {D : Ends} (h : DE te σ H S d) (lv : Lv H S) (k : ∀ v H2, Same H H2 → Oc H2 S v d → u D (σ.set i (some v)) H2) : tSeq (tAsg te (gName i)) u D σ H := h.go lv k
theorem S_set1 {te : TE} {i : Nat} {σ : L2.St} {H : Hp} {S : AS} {d : Dt} {D : Ends} (h : DE te σ H S d) (lv : Lv H S) (k : ∀ v H2, Same H H2 → Oc H2 S v d → D.nx (σ.set i (some v)) H2) : tAsg te (gName i) D σ H := h.go lv k
theorem S_ret {te : TE} {σ : L2.St} {H : Hp} {S : AS} {d : Dt} {D : Ends} (h : DE te σ H S d) (lv : Lv H S) (k : ∀ v H2, Same H H2 → Oc H2 S v d → D.rt v H2) : tRet te D σ H := h.go lv k
/-- i not in (a tuple of ints) -/
theorem inV_ints (i : Int) : ∀ ns : List Int, inV (.int i) (ns.map V.int) = decide (i ∈ ns)
  | [] => rfl
  | n :: r => by
    have ih := inV_ints i r
    unfold inV at ih ⊢
    rw [List.map_cons, List.any_cons, ih]
    show ((n == i) || decide (i ∈ r)) = decide (i ∈ n :: r)
    by_cases e : n = i
    · subst e; simp
    · have e2 : (n == i) = false := beq_eq_false_iff_ne.mpr e
      have e3 : ¬ i = n := fun z => e z.symm
      rw [e2, Bool.false_or]
      simp [e3]
theorem flat_ints : ∀ ns : List Int, (ns.map V.int).all flatV = true
  | [] => rfl
  | n :: r => by rw [List.map_cons, List.all_cons, flat_ints r]; rfl
theorem T_nin {σ : L2.St} {H : Hp} {S : AS} {K : PySem.W.Frag} {ta tb : TE} {i : Int} {ns : List Int} (ha : DE ta σ H S (.int i)) (hb : DE tb σ H S (intT' ns)) : DT (tTest (tOp (rIn K true) ta tb)) σ H S (!decide (i ∈ ns)) := fun H1 S1 Q x q =>
  ha H1 S1 _ x fun v H2 k o => (hb.lift (x.then k)).go (Lv.same k x.live) fun u H3 k3 o3 => by
    have e := o.int_inv
    subst e
    obtain ⟨a, xs, rfl, ea, na, oa⟩ := o3.tup_inv
    have ex := oa.ints
    subst ex
    refine ⟨a, _, rfl, .inr ea.sq, rfl, flat_ints ns, _, rfl, ?_⟩
    have e : (if true = true then !inV (V.int i) (ns.map V.int) else inV (V.int i) (ns.map V.int)) = !decide (i ∈ ns) := by
      rw [if_pos rfl, inV_ints]
    rw [e]
    exact q _ (k.trans k3)
/-- t[i] -/
theorem D_ixT {σ : L2.St} {H : Hp} {S : AS} {K : PySem.W.Frag} {ta tb : TE} {ds : List Dt} {z : Bool} {i : Nat} {d : Dt} (ha : DE ta σ H S (.tup z ds)) (hb : DE tb σ H S (.int (i : Nat))) (hd : ds[i]? = some d) : DE (tOp (rIxT K) ta tb) σ H S d := fun H1 S1 Q x q =>
  ha H1 S1 _ x fun v H2 k o => (hb.lift (x.then k)).go (Lv.same k x.live) fun u H3 k3 o3 => by
    have e := o3.int_inv
    subst e
    obtain ⟨a, xs, rfl, ea, na, oa⟩ := (o.same k3).tup_inv
    obtain ⟨w, hw, ow⟩ := oa.at hd
    exact ⟨a, xs, _, w, rfl, rfl, ea.sq, atI_nat hw, q _ _ (k.trans k3) ow⟩
theorem D_ixL {σ : L2.St} {H : Hp} {S : AS} {K : PySem.W.Frag} {ta tb : TE} {ds : List Dt} {i : Nat} {d : Dt} (ha : DE ta σ H S (.lst ds)) (hb : DE tb σ H S (.int (i : Nat))) (hd : ds[i]? = some d) : DE (tOp (rIxL K) ta tb) σ H S d := fun H1 S1 Q x q =>
  ha H1 S1 _ x fun v H2 k o => (hb.lift (x.then k)).go (Lv.same k x.live) fun u H3 k3 o3 => by
    have e := o3.int_inv
    subst e
    obtain ⟨a, xs, rfl, ea, na, oa⟩ := (o.same k3).lst_inv
    obtain ⟨w, hw, ow⟩ := oa.at hd
    exact ⟨a, xs, _, w, rfl, rfl, SqL.of ea, atI_nat hw, q _ _ (k.trans k3) ow⟩
end Lc

namespace LcS
open PySem PySem.Spec PyProof.Rows L2
section
variable {P : Program} {w : World} {A : Around} {E : Value → Shared → Prop} {s : Shared}
/-- a set just made -/
abbrev nul (w : World) : Obj := { cls := .type "set", dict := none, data := .set #[] 0 (.fresh 0 0 (!w.params.followText "set-order")) }
set_option maxHeartbeats 8000000 in
theorem set_of_list {l : Addr} {its : Array Value} (ns : List Int) {Q : Value → Shared → Prop} (hd : A.handled = none) (hl : s.heap.IsList l its) (ar : IntsAre its.toList ns) (room : ns.length + 1 < scanBound)
    (fin : ∀ (g : Heap) (tk c : Nat), SetR w g s.heap.objs.size (fun j => decide (j ∈ ns)) c → c ≤ ns.length → (∀ b o, s.heap.get? b = some o → g.get? b = some o) → Q (.ref s.heap.objs.size) { s with heap := g, toks := tk }) :
    wpAny (model P w) A (call (.type "set") [.ref l]) Q E s := by
  have size : its.size = ns.length := (Array.length_toList ▸ IntsAre.length ar)
  obtain ⟨mc, mt, mro⟩ := F.called_set.mro
  have made := F.called_set.made
  have sub := F.called_set.sub
  have notT := F.called_set.notType
  have can := F.called_set.canCreate
  have chk := F.typeCall_set_1 (.ref l)
  refine wpAny_call (codeAny_of_tree (show wpAny _ _ (callAny (.type "set") _) _ _ _ from wpAny_pure ⟨Code.quiet_builtin _ (by decide +kernel), codeAny_builtin F.entry_type_call ?_⟩))
  rw [Around.under_plain (weight_type_call_type "set" [.ref l] []) rfl]
  repeat (any_goals (first | assumption | wp_step))
  refine codeAny_mono (code_set_led1 (.ref l) (E := E) (Q₁ := fun v z => v = .ref s.heap.objs.size ∧ z = { s with heap := s.heap.push (nul w) }) ⟨rfl, rfl⟩) ?_
  rintro (x | fl) z hz
  · exact hz
  cases fl <;> try exact hz.elim
  rename_i v
  obtain ⟨rfl, rfl⟩ := hz
  have at0 : (s.heap.push (nul w)).get? s.heap.objs.size = some (nul w) := Heap.get?_push_size _ rfl
  have ty0 : Shared.TypeIs { s with heap := s.heap.push (nul w) } (.ref s.heap.objs.size) "set" := ⟨_, at0, rfl⟩
  have il := F.called_set.init.lookup
  have ib := F.called_set.init.bind (.ref s.heap.objs.size)
  repeat (any_goals (first | assumption | wp_step))
  refine codeAny_mono (codeAny_call_builtin (R := wants (fun r z => r = .none ∧ ∃ g tk c, z = { s with heap := g, toks := tk } ∧ SetR w g s.heap.objs.size (fun j => decide (j ∈ ns)) c ∧ c ≤ ns.length ∧ (∀ b o, s.heap.get? b = some o → g.get? b = some o)) E)
    F.called_set.init.plain F.entry_set_init (check_set_init_1 ty0 ?_)) ?_
  · obtain ⟨⟨oc, od, odata, osl⟩, hol, hcl, nl, hdl⟩ := hl
    simp only at hcl hdl
    subst hcl; subst hdl
    have at1 : (s.heap.push (nul w)).get? l = some { cls := .type "list", dict := od, data := .seq its nl, slots := osl } := Heap.get?_push_of_some _ hol
    have s1 := F.sub_list_set
    have s2 := F.sub_list_frozenset
    have nd : (Value.type "list" == Value.type "dict") = false := by decide
    have hl1 : (s.heap.push (nul w)).IsList l its := ⟨_, at1, rfl, nl, rfl⟩
    unfold Builtin.«set.__init__» noKeywords Builtin.Frozenset.updateFrom
    generalize eI : pyIter = PI
    wp_walk
    subst eI
    refine wpAny_pyIter_list hl1 (wpAny_bind (wpAny_runValue ?_))
    have ll : l < s.heap.objs.size := Heap.lt_size hol
    have sz : (s.heap.push (nul w)).objs.size = s.heap.objs.size + 1 := Heap.size_push ..
    have hd3 : A.in1.in1.in1.handled = none := by simp [hd]
    have lI : l ≠ (s.heap.push (nul w)).objs.size := fun e => by rw [e, sz] at ll; exact absurd ll (by exact fun z => Nat.lt_irrefl _ (Nat.lt_of_succ_lt z))
    have out : s.heap.objs.size ∉ [(s.heap.push (nul w)).objs.size, l] := by
      rw [sz]
      simp only [List.mem_cons, List.not_mem_nil, or_false, not_or]
      exact ⟨fun z => Nat.succ_ne_self _ z.symm, fun z => Nat.lt_irrefl _ (z ▸ ll)⟩
    have val : ∀ (i : Nat) (v : Value), its[i]? = some v → ∃ k t, ns[i]? = some k ∧ v = .int k t := fun i v hv => by
      have hi : i < ns.length := size ▸ (Array.getElem?_eq_some_iff.mp hv).1
      obtain ⟨t, rfl⟩ := PyProof.Rows.IntsAre.int_at ar i v (by rw [Array.getElem?_toList]; exact hv)
      exact ⟨ns[i], t, List.getElem?_eq_getElem hi, by rw [List.getD_eq_getElem?_getD, List.getElem?_eq_getElem hi] <;> rfl⟩
    refine set_update_ints ((Walks.list hd3 _ l lI its).toS) s.heap.objs.size out ns size room val (its.size - 0) 0 _ (by omega) (Nat.zero_le _) ⟨⟨_, Heap.get?_push_size _ rfl, rfl, rfl⟩, (hl1.push _)⟩ ?_ ?_
    · exact ⟨0, Nat.le_refl 0, setR_new_at (Heap.get?_push_of_some _ at0)⟩
    · rintro ⟨g, g2, d2, tk, os2⟩ c mv hc R
      have e1 : g2 = s.gens := mv.gens
      have e2 : d2 = s.drawn := mv.drawn
      have e3 : os2 = s.os := mv.os
      subst e1 e2 e3
      refine wpAny_pure (show wpAny _ _ (ret Value.none) _ _ _ from wpAny_pure ⟨rfl, g, tk, c, rfl, R, size ▸ hc, fun b o e => ?_⟩)
      have bl := Heap.lt_size e
      exact mv.heap b o (by rw [sz]; simp only [List.mem_cons, List.not_mem_nil, or_false, not_or]; exact ⟨fun z => Nat.lt_irrefl _ (z ▸ bl), fun z => Nat.lt_irrefl _ (Nat.lt_of_succ_lt (z ▸ bl))⟩) (Heap.get?_push_of_some _ (Heap.get?_push_of_some _ e))
  · rintro (x | fl) z hz
    · exact hz
    cases fl <;> try exact hz.elim
    obtain ⟨rfl, g, tk, c, rfl, R, hc, k⟩ := hz
    repeat (any_goals (first | assumption | wp_step))
    exact fin _ _ _ R hc k
end
/-- set(xs), xs a list of ints -/
def rSetL (K : PySem.W.Frag) (w : World) : List V → Hp → VK → Prop := fun xs H Q => ∃ (l : Addr) (ns : List Int), xs = [.ref l] ∧ SqL K H l (ns.map V.int) ∧ ns.length ≤ 2000 ∧
  ∀ p c, H p = none → c ≤ ns.length → Q (.ref p) (upd H p (SetO w p (fun j => decide (j ∈ ns)) c))
theorem cr_setL {X : Cx} (hc : X.calm = true) : CallR X (.type "set") (rSetL X.K X.w) := by
  intro pins s σ H xs us Q I r h
  obtain ⟨l, ns, rfl, hq, hn, q⟩ := h
  rw [Vals.ref1 r]
  obtain ⟨its, rv, pl, _⟩ := I.list hq
  refine set_of_list ns (I.ok.hd hc) pl.isList (by simpa using rv.ints) (by unfold scanBound; omega) fun g tk c R hcn k => ?_
  exact ⟨.ref _, _, I.laid (t' := tk) k (Nat.le_refl _) (setO_new R), rfl, q _ c (I.hok.fresh (Nat.le_refl _)) hcn⟩
end LcS

namespace LcC
open PySem PySem.Spec PyProof.Rows L2
/-! ### {e for a in xs .. for b in ys ..}, e an int -/
section
variable {pr : Program} {w : World} {A : Around} {R : Result → Shared → Prop} {s : Shared} {el ta ia tb ib : Expr} {ca cb : List Expr} {sc : Scope} {ps : Pos} {it D : Value} {v : Env}
abbrev two (el ta ia : Expr) (ca : List Expr) (tb ib : Expr) (cb : List Expr) (sc : Scope) (ps : Pos) : Expr := .SetComp el [⟨ta, ia, ca, 0⟩, ⟨tb, ib, cb, 0⟩] sc ps
/-- where an error goes -/
abbrev Out (pr : Program) (w : World) (A : Around) (v : Env) (R : Result → Shared → Prop) : Value → Shared → Prop := notedBy (model pr w) A v fun e z => R (.error e) z
/-- a step, with the errors of a turn -/
abbrev St1 {α : Type} (pr : Program) (w : World) (A : Around) (Z : Value → Shared → Prop) (t : Sem α) (s : Shared) (k : α → Shared → Prop) : Prop := wpAny (model pr w) A t k Z s
/-- one turn of a clause: its item, its store, its tests -/
def Turn (pr : Program) (w : World) (A : Around) (v : Env) (Z : Value → Shared → Prop) (tg : Expr) (cs : List Expr) (it : Value) (done next go : Shared → Prop) (s : Shared) : Prop :=
  St1 pr w A Z (pyNext it) s fun r s1 => match r with
    | none => done s1
    | some x => St1 pr w A Z (letOwnedTupleGo tg it x) s1 fun _ s2 => St1 pr w A Z (assign tg v x) s2 fun _ s3 =>
      St1 pr w A Z (forIn cs true fun c r => if r = true then do let b ← isTrue c v (eval c v); pure (ForInStep.yield b) else pure (ForInStep.yield r)) s3 fun b s4 => if b = true then go s4 else next s4
theorem outer (hs : ∀ x, foldedSetIterable ib v x = pure x) (I : Nat → Shared → Prop)
    (turn : ∀ n s, I n s → Turn pr w A v (Out pr w A v R) ta ca it (fun z => R (.ok .next) z) (fun z => ∃ m, m < n ∧ I m z)
      (fun z => St1 pr w A (Out pr w A v R) (eval ib v) z fun x z2 => St1 pr w A (Out pr w A v R) (pyIter x) z2 fun j z3 =>
        codeAny (model pr w) A (.compStart (two el ta ia ca tb ib cb sc ps) 1 j D v) (fun r y => match r with | .ok _ => ∃ m, m < n ∧ I m y | .error _ => False) z3) s)
    (n : Nat) (h : I n s) : codeAny (model pr w) A (.compLoop (two el ta ia ca tb ib cb sc ps) 0 it D v) R s := by
  refine codeAny_loop rfl I (fun n z hz => ?_) n h
  refine wpAny_noted (env := v) ?_
  refine wpAny_bind (m := standAt ia.pos) (wpAny_standAt ?_)
  refine wpAny_bind (m := pyNext it) (wpAny_mono (turn n z hz) (fun r z1 h1 => ?_) fun _ _ q => q)
  cases r with
  | none => exact wpAny_pure h1
  | some x =>
    refine wpAny_bind (m := letOwnedTupleGo ta it x) (wpAny_mono h1 (fun _ z2 h2 => ?_) fun _ _ q => q)
    refine wpAny_bind (m := assign ta v x) (wpAny_mono h2 (fun _ z3 h3 => wpAny_bind (wpAny_mono h3 (fun b z4 h4 => ?_) fun _ _ q => q)) fun _ _ q => q)
    cases b with
    | false => exact wpAny_pure ⟨rfl, h4⟩
    | true =>
      refine wpAny_bind (m := eval ib v) (wpAny_mono h4 (fun y z5 h5 => ?_) fun _ _ q => q)
      refine wpAny_bind (m := standAt ib.pos) (wpAny_standAt ?_)
      refine wpAny_bind (wpAny_of_eq (hs y) (wpAny_bind (wpAny_holding (wpAny_mono h5 (fun j z6 h6 => wpAny_bind (wpAny_runOwn ?_)) fun _ _ q => q))))
      rw [Around.mark_none]
      refine codeAny_mono h6 fun r z7 h7 => ?_
      cases r with
      | ok f => first | exact wpAny_pure ⟨rfl, h7⟩ | exact wpAny_bind (wpAny_pure (wpAny_pure ⟨rfl, h7⟩))
      | error e => exact False.elim h7
theorem inner (I : Nat → Shared → Prop)
    (turn : ∀ n s, I n s → Turn pr w A v (Out pr w A v R) tb cb it (fun z => R (.ok .next) z) (fun z => ∃ m, m < n ∧ I m z)
      (fun z => St1 pr w A (Out pr w A v R) (eval el v) z fun x z2 => St1 pr w A (Out pr w A v R) (call (.builtin "set.add") [D, x]) z2 fun _ z3 => ∃ m, m < n ∧ I m z3) s)
    (n : Nat) (h : I n s) : codeAny (model pr w) A (.compLoop (two el ta ia ca tb ib cb sc ps) 1 it D v) R s := by
  refine codeAny_loop rfl I (fun n z hz => ?_) n h
  refine wpAny_noted (env := v) ?_
  refine wpAny_bind (m := standAt ib.pos) (wpAny_standAt ?_)
  refine wpAny_bind (m := pyNext it) (wpAny_mono (turn n z hz) (fun r z1 h1 => ?_) fun _ _ q => q)
  cases r with
  | none => exact wpAny_pure h1
  | some x =>
    refine wpAny_bind (m := letOwnedTupleGo tb it x) (wpAny_mono h1 (fun _ z2 h2 => ?_) fun _ _ q => q)
    refine wpAny_bind (m := assign tb v x) (wpAny_mono h2 (fun _ z3 h3 => wpAny_bind (wpAny_mono h3 (fun b z4 h4 => ?_) fun _ _ q => q)) fun _ _ q => q)
    cases b with
    | false => exact wpAny_pure ⟨rfl, h4⟩
    | true => exact wpAny_bind (wpAny_bind (wpAny_mono h4 (fun y z5 h5 => wpAny_bind (wpAny_standAt (wpAny_bind (wpAny_mono h5 (fun _ z6 h6 => wpAny_pure (wpAny_pure ⟨rfl, h6⟩)) fun _ _ q => q)))) fun _ _ q => q))
theorem start1 (h0 : codeAny (model pr w) A (.compLoop (two el ta ia ca tb ib cb sc ps) 1 it D v) R s)
    (h : St1 pr w A (Out pr w A v R) (pyIter it) s fun j z => codeAny (model pr w) A (.compLoop (two el ta ia ca tb ib cb sc ps) 1 j D v) R z) :
    codeAny (model pr w) A (.compStart (two el ta ia ca tb ib cb sc ps) 1 it D v) R s := by
  refine codeAny_of_tree (wpAny_notedAt (env := v) ?_)
  unfold compStart
  show wpAny _ _ (ask >>= _) _ _ s
  refine wpAny_bind (wpAny_askSetting (wpAny_ite ?_))
  split
  · first | exact wpAny_bind (wpAny_pure (wpAny_pure ⟨rfl, h0⟩)) | exact wpAny_pure ⟨rfl, h0⟩
  · first
      | exact wpAny_bind (wpAny_rule (wpAny_bind (wpAny_standAt (wpAny_bind (wpAny_mono h (fun j z q => wpAny_pure ⟨rfl, q⟩) fun _ _ y => y)))))
      | (refine wpAny_bind (wpAny_rule ?_); show wpAny _ _ (standAt ib.pos >>= _) _ _ s; exact wpAny_bind (wpAny_standAt (wpAny_bind (wpAny_mono h (fun j z q => wpAny_pure ⟨rfl, q⟩) fun _ _ y => y))))
end
section
variable {X : Cx}
abbrev sO (w : World) (D : Addr) : HO := SetO w D (fun _ => false) 0
def tSc2 (w : World) (wi : TI) (g : TG) (tt : TT) (wj : TI) (f : TG) (uu : TT) (te : TE) (vs us : List Nat) : TE := fun σ H Q => wi σ H fun J H1 => ∀ D, H1 D = none →
  ∃ W : Nat → Nat → Hp → Prop, (∃ m, W 0 m (upd H1 D (sO w D))) ∧ ∀ i m H2, W i m H2 → (J.stop i H2 ∧ Q (.ref D) H2) ∨
    (J.go i H2 ∧ ∃ N : Hp → Prop, (∀ H3, N H3 → ∃ l, l < m ∧ W (i + 1) l H3) ∧ ∀ x H3, J.yld i H2 x H3 → g x (wipe σ vs) H3 fun τ H4 => wipe τ vs = wipe σ vs ∧ tt τ H4 fun b H5 =>
      if b = true then wj τ H5 fun J2 H6 => ∃ V2 : Nat → Nat → Hp → Prop, (∃ m, V2 0 m H6) ∧ ∀ j k H7, V2 j k H7 → (J2.stop j H7 ∧ N H7) ∨
        (J2.go j H7 ∧ ∃ M : Hp → Prop, (∀ H8, M H8 → ∃ l, l < k ∧ V2 (j + 1) l H8) ∧ ∀ y H8, J2.yld j H7 y H8 → f y (wipe τ us) H8 fun ρ H9 => wipe ρ us = wipe τ us ∧ uu ρ H9 fun c Ha =>
          if c = true then te ρ Ha fun z Hb => ∃ (k : Int) (S : Int → Bool) (n : Nat), z = .int k ∧ Hb D = some (SetO w D S n) ∧ n + 1 < scanBound ∧ M (upd Hb D (SetO w D (fun j => S j || decide (j = k)) (if S k = true then n else n + 1))) else M Ha)
      else N H5)
/-- what a block's rule is asked for: in any frame of the block -/
abbrev In (X : Cx) (sc : Scope) (p : Cx → Prop) : Prop := ∀ (s : Shared) (H : Hp) (C : Addr) (cl : List (Str × Addr)) (fp : List Addr), p (X.blk s H sc (compEnvC sc cl C X.env) fp)
theorem sc2_core {pins : List (Addr × Obj)} {s : Shared} {σ : L2.St} {H : Hp} {Q : VK} {el ta ia tb ib : Expr} {ca cb : List Expr} {sc : Scope} {own : List (Str × Nat)} {us : List Nat} {ps pq : Pos} {wi wj : TI} {g f : TG} {tt uu : TT} {te : TE} {use : Option (Value → Sem Unit)} {Qf : Value → Shared → Prop}
    (hc : X.calm = true) (hN : X.N.Nodup) (I : Inv X pins σ H s) (hi : PI X ta ia wi) (ok : BlkOk X.N X.env.scope sc own) (hv : ∀ i ∈ us, i ∈ own.map (·.2))
    (kg : In X sc fun Y => PG Y ta g) (kt : In X sc fun Y => PTs Y ca tt) (ke : In X sc fun Y => PE Y el te) (hs : ∀ x, foldedSetIterable ia X.env x = pure x)
    (ki : In X sc fun Y => PI Y tb ib wj) (kf : In X sc fun Y => PG Y tb f) (ku : In X sc fun Y => PTs Y cb uu) (hs2 : ∀ env x, foldedSetIterable ib env x = pure x)
    (h : tSc2 X.w wi g tt wj f uu te (own.map (·.2)) us σ H Q)
    (back : ∀ D C z m Hz, Inv X pins σ Hz z → Q (.ref D) Hz → z.heap.Ns C m → FpOk X pins Hz C → compPost (model X.prog X.w) X.A X.xe use Qf (.ref D) C (.ok .next) z) :
    wpAny (model X.prog X.w) X.A (comprehension (two el ta ia ca tb ib cb sc ps) sc X.env pq (newSet (.type "set")) false (eval ia X.env) use) Qf X.xe s := by
  have free : ∀ y ∈ sc.names, y.2 = .free → ∃ c, X.env.cells.lookup y.1 = some c := fun y hy e => (ok.free y hy e).elim (fun k => I.ok.has _ (.inl k)) fun k => I.ok.has _ (.inr k)
  refine wpAny_comprehension_free (use := use) rfl hs (closure_ok free) ok.kind (fun y hy e => by rw [ok.uniq y hy, e]) (thn (hi.run pins s σ H _ I h) fun _ sA hA => thn hA fun _ sB hB => ?_)
  obtain ⟨it, fp, tn, J, HB, rfl, IB, T, stB, fB, q⟩ := hB
  refine PpSet.newSet_ok (newEnv_comp ?_)
  generalize hD : sB.heap.objs.size = D
  have fresh : HB D = none := IB.hok.fresh (Nat.le_of_eq hD)
  obtain ⟨W, ⟨m0, w0⟩, walk⟩ := q D fresh
  generalize eC : ({ sB with heap := sB.heap.push (LcS.nul X.w) } : Shared) = sC
  have hpC : sC.heap = sB.heap.push (LcS.nul X.w) := by rw [← eC]
  have IC : Inv X pins σ (upd HB D (sO X.w D)) sC := by
    rw [← eC]
    refine IB.laid (t' := sB.toks) (fun b o e => Heap.get?_push_of_some _ e) (Nat.le_of_eq hD) ?_
    rw [← hD]
    exact setO_new (by simpa using setR_new_at (w := X.w) (ns := []) (Heap.get?_push_size sB.heap rfl))
  have young : ∀ b ∈ fp, b < sB.heap.objs.size := fun b hb => (T.obj _ _ stB b hb).elim fun o e => Heap.lt_size e.1
  have fC : ∀ b ∈ fp, FpOk X pins (upd HB D (sO X.w D)) b ∧ b < sC.heap.objs.size := fun b hb => by
    have y := young b hb
    refine ⟨⟨?_, (fB b hb).2⟩, by rw [hpC, Heap.size_push]; exact Nat.lt_succ_of_lt y⟩
    rw [upd_ne (by rw [← hD]; exact Nat.ne_of_lt y)]
    exact (fB b hb).1
  have stC : tn 0 sC.heap := T.keep _ _ _ stB fun b _ o e => by rw [hpC]; exact Heap.get?_push_of_some _ e
  have ID := block_start IC ok hN fC
  have pg := kg sC (upd HB D (sO X.w D)) sC.heap.objs.size (cellsFrom (sC.heap.objs.size + 1) sc.names (cloFrom X.env.cells sc.names [])) fp
  have pt := kt sC (upd HB D (sO X.w D)) sC.heap.objs.size (cellsFrom (sC.heap.objs.size + 1) sc.names (cloFrom X.env.cells sc.names [])) fp
  have pe := ke sC (upd HB D (sO X.w D)) sC.heap.objs.size (cellsFrom (sC.heap.objs.size + 1) sc.names (cloFrom X.env.cells sc.names [])) fp
  have pi := ki sC (upd HB D (sO X.w D)) sC.heap.objs.size (cellsFrom (sC.heap.objs.size + 1) sc.names (cloFrom X.env.cells sc.names [])) fp
  have pf := kf sC (upd HB D (sO X.w D)) sC.heap.objs.size (cellsFrom (sC.heap.objs.size + 1) sc.names (cloFrom X.env.cells sc.names [])) fp
  have pu := ku sC (upd HB D (sO X.w D)) sC.heap.objs.size (cellsFrom (sC.heap.objs.size + 1) sc.names (cloFrom X.env.cells sc.names [])) fp
  show codeAny _ _ (.compStart (two el ta ia ca tb ib cb sc ps) 0 (.ref it) (.ref D) (compEnvC sc (cellsFrom (sC.heap.objs.size + 1) sc.names (cloFrom X.env.cells sc.names [])) sC.heap.objs.size X.env)) (compPost (model X.prog X.w) X.A X.xe use Qf (.ref D) sC.heap.objs.size)
    { sC with heap := pushCells (sC.heap.push { cls := .type "dict", data := .dict #[] }) sc.names }
  have off : ∀ b ∈ fp, (upd HB D (sO X.w D)) b = none := fun b hb => (fC b hb).1.1
  generalize hv2 : compEnvC sc (cellsFrom (sC.heap.objs.size + 1) sc.names (cloFrom X.env.cells sc.names [])) sC.heap.objs.size X.env = v at ID pg pt pe pi pf pu ⊢
  have loc : v.locals = sC.heap.objs.size := by subst hv2; rfl
  generalize hH : upd HB D (sO X.w D) = HC at IC ID pg pt pe pi pf pu w0 off fC
  generalize hsD : ({ sC with heap := pushCells (sC.heap.push { cls := .type "dict", data := .dict #[] }) sc.names } : Shared) = sD at ID ⊢
  have stD : tn 0 sD.heap := T.keep _ _ _ stC fun b _ o e => by rw [← hsD]; exact pushCells_keeps _ _ _ _ (Heap.get?_push_of_some _ e)
  -- the iterator's objects, in the block
  have apart : ∀ {ρ : L2.St} {G : Hp} {z : Shared}, Inv (X.blk sC HC sc v fp) [] ρ G z → (∀ b ∈ fp, G b = none) → ∀ b ∈ fp, FpOk (X.blk sC HC sc v fp) [] G b := fun {ρ G z} J' n b hb =>
    ⟨n b hb, (J'.ok.exf b hb).1, J'.ok.exfs b hb, .inl hb, fun x c e => (J'.ok.exf b hb).2 x c e, fun p hp => absurd (show p ∈ ([] : List (Addr × Obj)) ++ [] from hp) (by simp)⟩
  -- where a turn begins
  let At : Nat → Nat → Shared → Prop := fun n i z => ∃ G, Inv (X.blk sC HC sc v fp) [] (wipe σ (own.map (·.2))) G z ∧ tn i z.heap ∧ (∀ b ∈ fp, G b = none) ∧ W i n G
  have all : codeAny (model X.prog X.w) X.A (.compLoop (two el ta ia ca tb ib cb sc ps) 0 (.ref it) (.ref D) v) (compPost (model X.prog X.w) X.A X.xe use Qf (.ref D) sC.heap.objs.size) sD := by
    refine outer (hs2 v) (fun n z => ∃ i, At n i z) ?_ m0 ⟨0, HC, ID, stD, off, w0⟩
    rintro n s5 ⟨i, H5, I5, st5, n5, w5⟩
    rcases walk i n H5 w5 with ⟨stop, fin⟩ | ⟨go, N, down, step⟩
    · refine thnF (T.done (X.blk sC HC sc v fp) rfl rfl rfl hc i [] s5 _ H5 (fun _ _ => False) I5 (apart I5 n5) st5 stop) fun r s6 h6 => ?_
      obtain ⟨rfl, I6⟩ := h6
      have I7 : Inv X pins σ H5 s6 := IC.call' (ch := fp) I6.os I6.base I6.hok I6.bare fun b hb => ⟨(fC b hb).1.2.2.2.1, (fC b hb).1.2.1, (fC b hb).1.2.2.2.2.1, (fC b hb).1.2.2.2.2.2⟩
      have nC : H5 sC.heap.objs.size = none := loc ▸ (show H5 v.locals = none from I6.free)
      obtain ⟨m, ns, _⟩ := I6.loc
      have ns : s6.heap.Ns v.locals m := ns
      rw [loc] at ns
      exact back D sC.heap.objs.size s6 m H5 I7 fin ns (IC.fpOk (Nat.le_refl _) nC)
    · refine thnF (T.item (X.blk sC HC sc v fp) rfl rfl rfl hc i [] s5 _ H5 (fun _ _ => False) I5 (apart I5 n5) st5 go) fun r s6 h6 => ?_
      obtain ⟨u, rfl, h6⟩ := h6
      refine thnF h6 fun _ s7 h7 => ?_
      obtain ⟨x, H7, I7, r7, y7, st7, n7⟩ := h7
      refine thnF (pg.run _ s7 _ H7 x u _ (I7.pinned (apart I7 n7) (T.obj _ _ st7)) r7 (step x H7 y7)) fun _ s8 h8 => ?_
      obtain ⟨τ, H8, I8, e8, q8⟩ := h8
      refine thnF (pt.run _ s8 τ H8 _ I8 q8) fun b s9 h9 => ?_
      obtain ⟨H9, I9, q9⟩ := h9
      have len8 : (wipe σ (own.map (·.2))).length = τ.length := by rw [← e8, wipe_length]
      have kn8 : ∀ (j : Nat) y, (wipe σ (own.map (·.2)))[j]? = some (some y) → τ[j]? = some (some y) := fun j y e => (wipe_some (by rw [e8]; exact e)).1
      have kn9 : ∀ (j : Nat) y, (wipe σ (own.map (·.2)))[j]? = some (some y) → (wipe τ us)[j]? = some (some y) := fun j y e => by
        obtain ⟨a, c⟩ := wipe_some (show (wipe τ (own.map (·.2)))[j]? = some (some y) by rw [e8]; exact e)
        rw [wipe_out fun z => c (hv j z)]
        exact a
      -- a turn's end
      have next : ∀ {ρ : L2.St} {z : Shared} {G : Hp}, Inv (X.blk sC HC sc v fp) ([] ++ pinsAt fp s7.heap) ρ G z → (wipe σ (own.map (·.2))).length = ρ.length →
          (∀ (j : Nat) y, (wipe σ (own.map (·.2)))[j]? = some (some y) → ρ[j]? = some (some y)) → N G → ∃ m, m < n ∧ ∃ i, At m i z := fun {ρ z G} I' hl hk nx => by
        obtain ⟨l, lt, w'⟩ := down G nx
        have pinned : ∀ b ∈ fp, ∀ o, s7.heap.get? b = some o → z.heap.get? b = some o ∧ G b = none := fun b hb o e => by
          have z := I'.pin (b, o) (List.mem_append_right _ (List.mem_append_right _ (mem_pinsAt hb e)))
          exact ⟨z.1, z.2.1⟩
        exact ⟨l, lt, i + 1, G, (I'.unpinned (pins := [])).weak hl hk, T.keep _ _ _ st7 fun b hb o e => (pinned b hb o e).1, fun b hb => (T.obj _ _ st7 b hb).elim fun o e => (pinned b hb o e.1).2, w'⟩
      cases b with
      | false => exact next I9 len8 kn8 q9
      | true =>
        refine thnF (pi.run _ s9 τ H9 _ I9 q9) fun _ sx hx => thnF hx fun _ sy hy => ?_
        obtain ⟨jt, fq, tq, J2, Hy, rfl, Iy, T2, sty, fy, V2, ⟨m2, v0⟩, walk2⟩ := hy
        have apart2 : ∀ {G : Hp}, (∀ b ∈ fq, G b = none) → ∀ b ∈ fq, FpOk (X.blk sC HC sc v fp) ([] ++ pinsAt fp s7.heap) G b := fun n b hb => ⟨n b hb, (fy b hb).2⟩
        have lp : codeAny (model X.prog X.w) X.A (.compLoop (two el ta ia ca tb ib cb sc ps) 1 (.ref jt) (.ref D) v)
            (fun r z => match r with | .ok _ => ∃ m, m < n ∧ ∃ i, At m i z | .error _ => False) sy := by
          refine inner (fun k z => ∃ j G, Inv (X.blk sC HC sc v fp) ([] ++ pinsAt fp s7.heap) (wipe τ us) G z ∧ tq j z.heap ∧ (∀ b ∈ fq, G b = none) ∧ V2 j k G) ?_ m2 ⟨0, Hy, Iy.weak (wipe_length _ _) (fun j y e => (wipe_some e).1), sty, fun b hb => (fy b hb).1, v0⟩
          rintro k sz ⟨j, Hz, Iz, stz, nz, vz⟩
          rcases walk2 j k Hz vz with ⟨stop2, nx⟩ | ⟨go2, M, down2, step2⟩
          · refine thnF (T2.done (X.blk sC HC sc v fp) rfl rfl rfl hc j _ sz (wipe τ us) Hz (fun _ _ => False) Iz (apart2 nz) stz stop2) fun r sv h13 => ?_
            obtain ⟨rfl, Iv⟩ := h13
            exact next Iv (len8.trans (wipe_length τ us).symm) kn9 nx
          · refine thnF (T2.item (X.blk sC HC sc v fp) rfl rfl rfl hc j _ sz (wipe τ us) Hz (fun _ _ => False) Iz (apart2 nz) stz go2) fun r sv h13 => ?_
            obtain ⟨u2, rfl, h13⟩ := h13
            refine thnF h13 fun _ sw h14 => ?_
            obtain ⟨x2, Hw, Iw, rw2, yw, stw, nw⟩ := h14
            refine thnF (pf.run _ sw (wipe τ us) Hw x2 u2 _ (Iw.pinned (apart2 nw) (T2.obj _ _ stw)) rw2 (step2 x2 Hw yw)) fun _ s15 h15 => ?_
            obtain ⟨ρ, H15, I15, e15, q15⟩ := h15
            refine thnF (pu.run _ s15 ρ H15 _ I15 q15) fun c s16 h16 => ?_
            obtain ⟨H16, I16, q16⟩ := h16
            have next2 : ∀ {z : Shared} {G : Hp}, Inv (X.blk sC HC sc v fp) (([] ++ pinsAt fp s7.heap) ++ pinsAt fq sw.heap) ρ G z → M G → ∃ m, m < k ∧ ∃ j G, Inv (X.blk sC HC sc v fp) ([] ++ pinsAt fp s7.heap) (wipe τ us) G z ∧ tq j z.heap ∧ (∀ b ∈ fq, G b = none) ∧ V2 j m G := fun {z G} I' nx => by
              obtain ⟨l, lt, w'⟩ := down2 G nx
              have pinned : ∀ b ∈ fq, ∀ o, sw.heap.get? b = some o → z.heap.get? b = some o ∧ G b = none := fun b hb o e => by
                have y := I'.pin (b, o) (List.mem_append_right _ (List.mem_append_right _ (mem_pinsAt hb e)))
                exact ⟨y.1, y.2.1⟩
              exact ⟨l, lt, j + 1, G, I'.unpinned.weak (by rw [← e15, wipe_length]) (fun j y e => (wipe_some (by rw [e15]; exact e)).1), T2.keep _ _ _ stw fun b hb o e => (pinned b hb o e).1, fun b hb => (T2.obj _ _ stw b hb).elim fun o e => (pinned b hb o e.1).2, w'⟩
            cases c with
            | false => exact next2 I16 q16
            | true =>
              refine thnF (pe.run _ s16 ρ H16 _ I16 q16) fun y s17 h17 => ?_
              obtain ⟨yv, H17, I17, r17, kk, S, n, rfl, hDn, room, nx⟩ := h17
              refine thnF (mt_sadd (X := X.blk sC HC sc v fp) _ s17 ρ H17 (.ref D) [.int kk] (.ref D) [y] (fun _ G => M G) I17 rfl (.cons r17 .nil) ⟨D, kk, S, n, rfl, rfl, hDn, room, nx⟩) fun _ s18 h18 => ?_
              obtain ⟨_, H18, I18, _, nx18⟩ := h18
              exact next2 I18 nx18
        exact start1 lp (T2.self X.A 0 _ _ _ sty lp)
  exact PpSet.codeAny_compStart_set all (T.self X.A 0 _ _ _ stD all)
theorem pe_sc2 {el ta ia tb ib : Expr} {ca cb : List Expr} {sc : Scope} {own : List (Str × Nat)} {vs1 : List Nat} {ps : Pos} {wi wj : TI} {g g1 : TG} {tt tt1 : TT} {te : TE} (hc : X.calm = true) (hN : X.N.Nodup) (hi : PI X ta ia wi) (ok : BlkOk X.N X.env.scope sc own) (hv : ∀ i ∈ vs1, i ∈ own.map (·.2))
    (kg : In X sc fun Y => PG Y ta g) (kt : In X sc fun Y => PTs Y ca tt) (ki : In X sc fun Y => PI Y tb ib wj) (kf : In X sc fun Y => PG Y tb g1) (ku : In X sc fun Y => PTs Y cb tt1) (ke : In X sc fun Y => PE Y el te)
    (hs : ∀ x, foldedSetIterable ia X.env x = pure x := by intro _; rfl) (hs2 : ∀ env x, foldedSetIterable ib env x = pure x := by intro _ _; rfl) :
    PE X (two el ta ia ca tb ib cb sc ps) (tSc2 X.w wi g tt wj g1 tt1 te (own.map (·.2)) vs1) := by
  refine ⟨fun pins s σ H Q I h => ?_⟩
  rw [PpSet.eval_SetComp]
  refine sc2_core hc hN I hi ok hv kg kt ke hs ki kf ku hs2 h fun D C z m Hz I' q ns fo => ⟨m, ns, fun h'' sb => ?_⟩
  obtain ⟨o0, o1, o2, o3, o4, o5⟩ := fo
  exact ⟨.ref D, Hz, I'.turned (t' := z.toks) (fun b o hb e => (sb.2 b hb).trans e) o0 o1 o3 o4 o5, rfl, q⟩
end
end LcC

namespace Lc
open PySem PySem.Spec PyProof.Rows L2 RZ PySem.W
/-! ### ints, each once, ascending -/
def insU (x : Int) : List Int → List Int
  | [] => [x]
  | y :: r => if x < y then x :: y :: r else if x = y then y :: r else y :: insU x r
def sortU (xs : List Int) : List Int := xs.foldr insU []
theorem mem_insU {x k : Int} : ∀ {r : List Int}, k ∈ insU x r ↔ k = x ∨ k ∈ r
  | [] => by simp [insU]
  | y :: r => by
    unfold insU
    split
    · simp
    · split
      · rename_i h; subst h; simp
      · rw [List.mem_cons, mem_insU, List.mem_cons]
        constructor
        · rintro (h | h | h)
          · exact .inr (.inl h)
          · exact .inl h
          · exact .inr (.inr h)
        · rintro (h | h | h)
          · exact .inr (.inl h)
          · exact .inl h
          · exact .inr (.inr h)
theorem mem_sortU {k : Int} : ∀ {xs : List Int}, k ∈ sortU xs ↔ k ∈ xs
  | [] => by simp [sortU]
  | x :: r => by
    show k ∈ insU x (sortU r) ↔ _
    rw [mem_insU, mem_sortU, List.mem_cons]
theorem pw_insU {x : Int} : ∀ {r : List Int}, r.Pairwise (· < ·) → (insU x r).Pairwise (· < ·)
  | [], _ => by simp [insU]
  | y :: r, h => by
    obtain ⟨h1, h2⟩ := List.pairwise_cons.mp h
    unfold insU
    split
    · rename_i lt
      refine List.pairwise_cons.mpr ⟨fun z hz => ?_, h⟩
      rcases List.mem_cons.mp hz with rfl | hz
      · exact lt
      · exact Int.lt_trans lt (h1 z hz)
    · split
      · exact h
      · refine List.pairwise_cons.mpr ⟨fun z hz => ?_, pw_insU h2⟩
        rcases mem_insU.mp hz with rfl | hz
        · omega
        · exact h1 z hz
theorem pw_sortU : ∀ xs : List Int, (sortU xs).Pairwise (· < ·)
  | [] => List.Pairwise.nil
  | x :: r => pw_insU (pw_sortU r)
theorem insU_len (x : Int) : ∀ r : List Int, (insU x r).length ≤ r.length + 1
  | [] => by simp [insU]
  | y :: r => by
    unfold insU
    split
    · simp
    · split
      · simp
      · have := insU_len x r
        simp only [List.length_cons]; omega
theorem sortU_len : ∀ xs : List Int, (sortU xs).length ≤ xs.length
  | [] => Nat.le_refl _
  | x :: r => by
    have h1 := insU_len x (sortU r)
    have h2 := sortU_len r
    show (insU x (sortU r)).length ≤ _
    rw [List.length_cons]; omega
theorem fl_len2 {α β : Type} (ds : List α) (f : α → List β) (m : Nat) (h : ∀ d ∈ ds, (f d).length ≤ m) : (ds.flatMap f).length ≤ ds.length * m := by
  induction ds with
  | nil => simp
  | cons d r ih =>
    have h1 := ih fun y hy => h y (List.mem_cons_of_mem _ hy)
    have h2 := h d List.mem_cons_self
    rw [List.flatMap_cons, List.length_append, List.length_cons, Nat.succ_mul]
    omega
theorem up_unique : ∀ {a b : List Int}, a.Pairwise (· < ·) → b.Pairwise (· < ·) → (∀ k, k ∈ a ↔ k ∈ b) → a = b
  | [], [], _, _, _ => rfl
  | [], y :: t, _, _, h => absurd ((h y).mpr List.mem_cons_self) (by simp)
  | x :: r, [], _, _, h => absurd ((h x).mp List.mem_cons_self) (by simp)
  | x :: r, y :: t, ha, hb, h => by
    obtain ⟨a1, a2⟩ := List.pairwise_cons.mp ha
    obtain ⟨b1, b2⟩ := List.pairwise_cons.mp hb
    have e : x = y := by
      rcases List.mem_cons.mp ((h x).mp List.mem_cons_self) with e | e
      · exact e
      · rcases List.mem_cons.mp ((h y).mpr List.mem_cons_self) with e2 | e2
        · exact e2.symm
        · have := b1 x e
          have := a1 y e2
          omega
    subst e
    refine congrArg _ (up_unique a2 b2 fun k => ⟨fun hk => ?_, fun hk => ?_⟩)
    · rcases List.mem_cons.mp ((h k).mp (List.mem_cons_of_mem _ hk)) with rfl | e
      · exact absurd (a1 _ hk) (Int.lt_irrefl _)
      · exact e
    · rcases List.mem_cons.mp ((h k).mpr (List.mem_cons_of_mem _ hk)) with rfl | e
      · exact absurd (b1 _ hk) (Int.lt_irrefl _)
      · exact e
section
variable {σ : L2.St} {H : Hp} {S : AS} {K : PySem.W.Frag} {w : World}
/-- the members so far, at D -/
structure SetAt (w : World) (H2 : Hp) (D : Addr) (L : List Int) (H' : Hp) : Prop where
  same : Same H2 H'
  ex : ∃ n, H' D = some (SetO w D (fun k => decide (k ∈ L)) n) ∧ n ≤ L.length
theorem SetAt.nil {H2 : Hp} {D : Addr} (hD : H2 D = none) : SetAt w H2 D [] (upd H2 D (LcC.sO w D)) := ⟨same_upd hD, 0, by
  rw [upd_same]
  have e : (fun k : Int => decide (k ∈ ([] : List Int))) = fun _ => false := by funext k; simp
  rw [e], Nat.le_refl _⟩
theorem SetAt.lift {H2 H' : Hp} {D : Addr} {L : List Int} (l : Lv H2 S) (hD : H2 D = none) (m : SetAt w H2 D L H') : Lift H2 S H' (And1 S D) := by
  refine ⟨fun h => (h.add hD).same m.same, fun a ha z => ?_, fun a h => .inl h, m.same⟩
  rcases ha with ha | ha
  · exact Lv.same m.same l a ha z
  · obtain ⟨n, e, _⟩ := m.ex
    rw [ha, e] at z; cases z
theorem SetAt.step {H2 H' H4 : Hp} {D : Addr} {L : List Int} {k : Int} (hD : H2 D = none) (m : SetAt w H2 D L H') (s : Same H' H4) (hz : L.length ≤ 60) :
    ∃ (S : Int → Bool) (n : Nat), H4 D = some (SetO w D S n) ∧ n + 1 < scanBound ∧ SetAt w H2 D (L ++ [k]) (upd H4 D (SetO w D (fun j => S j || decide (j = k)) (if S k = true then n else n + 1))) := by
  obtain ⟨n, e, hn⟩ := m.ex
  refine ⟨_, n, s _ _ e, by unfold scanBound; omega, fun b o hb => ?_, (if decide (k ∈ L) = true then n else n + 1), ?_, ?_⟩
  · rw [upd_ne (ne_of_none hb hD)]
    exact s _ _ (m.same _ _ hb)
  · rw [upd_same]
    have e2 : (fun j : Int => decide (j ∈ L) || decide (j = k)) = fun j => decide (j ∈ L ++ [k]) := by funext j; simp
    rw [e2]
  · rw [List.length_append]; show _ ≤ L.length + 1; split <;> omega
theorem D_sortSc2 {i0 i1 ic : Nat} {te tn : TE} {cs : List Int} {n : Int → Nat} {f : Int → Nat → Int} {v : V} (hv : σ[ic]? = some (some v)) (ov : Oc H S v (intT' cs)) (h3 : cs.length ≤ 3) (hn5 : ∀ c ∈ cs, n c ≤ 5)
    (hw : ∀ v : V, wipe ((wipe σ [i0, i1]).set i0 (some v)) [i0, i1] = wipe σ [i0, i1]) (hw2 : ∀ v u : V, wipe ((wipe ((wipe σ [i0, i1]).set i0 (some v)) [i1]).set i1 (some u)) [i1] = wipe ((wipe σ [i0, i1]).set i0 (some v)) [i1])
    (hn : ∀ c H1 S1, c ∈ cs → Lift H S H1 S1 → DE tn ((wipe σ [i0, i1]).set i0 (some (.int c))) H1 S1 (.int (n c : Nat)))
    (hs : ∀ c (j : Nat) H1 S1, c ∈ cs → j < n c → Lift H S H1 S1 → DE te ((wipe ((wipe σ [i0, i1]).set i0 (some (.int c))) [i1]).set i1 (some (.int (j : Nat)))) H1 S1 (.int (f c j))) :
    DE (tCB (rSortedSet w) (tCons (LcC.tSc2 w (iTup K (tVar ic)) (gName i0) tYes (iRng1 (tCons tn tNil)) (gName i1) tYes te [i0, i1] [i1]) tNil)) σ H S
      (.lst ((sortU (cs.flatMap fun c => (List.range (n c)).map fun j => f c j)).map Dt.int)) := fun H1 S1 Q x q => by
  obtain ⟨a, xs, rfl, ea, na, oa⟩ := (x.ob ov).tup_inv
  have e := oa.ints
  subst e
  refine ⟨_, hv, a, rfl, ⟨_, ea.sq⟩, fun D hD => ?_⟩
  let F : Int → List Int := fun c => (List.range (n c)).map fun j => f c j
  have lenF : ∀ i, i ≤ cs.length → ((cs.take i).flatMap F).length ≤ i * 5 := by
    intro i
    induction i with
    | zero => intro _; simp
    | succ i ih =>
      intro hi
      have hg : cs[i]? = some cs[i] := List.getElem?_eq_getElem (by omega)
      have h5 := hn5 _ (List.mem_of_getElem? hg)
      rw [List.take_add_one, hg, List.flatMap_append, List.length_append]
      have := ih (by omega)
      have l1 : ((some cs[i]).toList.flatMap F).length = n cs[i] := by simp [F]
      omega
  refine ⟨fun i m H' => m = cs.length - i ∧ i ≤ cs.length ∧ SetAt w H1 D ((cs.take i).flatMap F) H', ⟨_, rfl, Nat.zero_le _, SetAt.nil hD⟩, ?_⟩
  rintro i m H2 ⟨rfl, hi, st⟩
  by_cases lt : i < cs.length
  · have hg : cs[i]? = some cs[i] := List.getElem?_eq_getElem lt
    have cm := List.mem_of_getElem? hg
    have c5 := hn5 _ cm
    refine .inr ⟨⟨_, .int cs[i], (ea.same st.same).sq, by rw [List.getElem?_map, hg]; rfl⟩, fun H3 => SetAt w H1 D ((cs.take (i + 1)).flatMap F) H3, fun H3 h => ⟨_, by omega, rfl, lt, h⟩, ?_⟩
    rintro y H3 ⟨rfl, fy⟩
    have ey := fy _ (ea.same st.same).sq
    rw [List.getElem?_map, hg] at ey
    have ey := Option.some.inj ey
    subst ey
    have lf := x.trans (st.lift x.live hD)
    refine ⟨hw _, (hn _ _ _ cm lf).go lf.live fun u H4 k4 o4 => ?_⟩
    have eu := o4.int_inv
    subst eu
    refine ⟨_, rfl, by omega, by omega, ?_⟩
    rw [Int.toNat_natCast]
    refine ⟨fun j k H' => k = n cs[i] - j ∧ j ≤ n cs[i] ∧ SetAt w H1 D ((cs.take i).flatMap F ++ (List.range j).map fun j => f cs[i] j) H', ⟨_, rfl, Nat.zero_le _, ?_⟩, ?_⟩
    · obtain ⟨m, e, hm⟩ := st.ex
      refine ⟨st.same.trans k4, m, ?_, ?_⟩
      · simpa using k4 _ _ e
      · simpa using hm
    rintro j kk H5 ⟨rfl, hj, st5⟩
    by_cases jl : j < n cs[i]
    · refine .inr ⟨jl, fun H6 => SetAt w H1 D ((cs.take i).flatMap F ++ (List.range (j + 1)).map fun j => f cs[i] j) H6, fun H6 h6 => ⟨_, by omega, rfl, jl, h6⟩, ?_⟩
      rintro y H6 ⟨rfl, rfl⟩
      rw [Int.zero_add]
      have lf5 := x.trans (st5.lift x.live hD)
      refine ⟨hw2 _ _, (hs _ j _ _ cm jl lf5).go lf5.live fun u H7 k7 o7 => ?_⟩
      have eu := o7.int_inv
      subst eu
      have sz : ((cs.take i).flatMap F ++ (List.range j).map fun j => f cs[i] j).length ≤ 60 := by
        rw [List.length_append, List.length_map, List.length_range]
        have := lenF i (by omega)
        omega
      obtain ⟨S0, m, e1, e2, st6⟩ := st5.step (k := f cs[i] j) hD k7 sz
      refine ⟨_, S0, m, rfl, e1, e2, ?_⟩
      rw [List.range_succ, List.map_append, ← List.append_assoc]
      exact st6
    · have ej : j = n cs[i] := by omega
      subst ej
      refine .inl ⟨Nat.le_refl _, ?_⟩
      rw [List.take_add_one, hg, List.flatMap_append]
      simpa [F] using st5
  · have ei : i = cs.length := by omega
    subst ei
    rw [List.take_length] at st
    have l15 := lenF cs.length (Nat.le_refl _)
    rw [List.take_length] at l15
    obtain ⟨m, e, hm⟩ := st.ex
    refine .inl ⟨⟨_, (ea.same st.same).sq, by rw [List.length_map]; exact Nat.le_refl _⟩, D, _, m, rfl, e, by omega, fun ns p pw hmem hl hp => ?_⟩
    have en : ns = sortU (cs.flatMap F) := up_unique pw (pw_sortU _) fun k => by rw [hmem, mem_sortU]; simp
    subst en
    refine q _ _ (st.same.trans (same_upd hp)) (.lst upd_same (fun z => ?_) (ocs_ints _))
    exact Lv.same st.same x.live p z hp
/-! ### sorted data -/
def rSortD (K : PySem.W.Frag) : List V → Hp → VK → Prop := fun vs H Q => ∃ (a : Addr) (xs : List V) (ds : List PyData), vs = [.ref a] ∧ SqL K H a xs ∧ DpAll K H xs ds ∧ AllAlike ds ∧ Sortable ds ∧ (∀ d ∈ ds, d.depth ≤ 16) ∧
  ∀ p, H p = none → Q (.ref p) (upd H p (.lst (((xs.zip ds).mergeSort (dataLe false Prod.snd)).map Prod.fst)))
theorem dp_len {K : PySem.W.Frag} {H : Hp} : ∀ {vs : List V} {ds : List PyData}, DpAll K H vs ds → vs.length = ds.length
  | _, _, .nil => rfl
  | _, _, .cons _ t => congrArg Nat.succ (dp_len t)
theorem each_zip {X : Cx} {pins : List (Addr × Obj)} {σ : L2.St} {H : Hp} {s : Shared} (I : Inv X pins σ H s) : ∀ {vs : List V} {us : List Value} {ds : List PyData}, DpAll X.K H vs ds → Vals vs us → EachIs (fun u (p : V × PyData) => RelV p.1 u) us (vs.zip ds) ∧ EachIs (fun u (p : V × PyData) => ∃ as, Reads s.heap u p.2 as) us (vs.zip ds)
  | _, _, _, .nil, .nil => ⟨.nil, .nil⟩
  | _, _, _, .cons h t, .cons r rs => by
    obtain ⟨e1, e2⟩ := each_zip I t rs
    exact ⟨.cons r e1, .cons (Dp.reads I _ _ _ h r) e2⟩
theorem vals_each : ∀ {us : List Value} {ps : List (V × PyData)}, EachIs (fun u (p : V × PyData) => RelV p.1 u) us ps → Vals (ps.map Prod.fst) us
  | _, _, .nil => .nil
  | _, _, .cons r t => .cons r (vals_each t)
theorem cr_sortD {X : Cx} (K : PySem.W.Frag) (hu : X.A.units + 64 < cLine) (h : X.K = K := by rfl) : CallR X (.builtin "sorted") (rSortD K) := by
  subst h
  intro pins s σ H vs us Q I r h
  obtain ⟨a, xs, ds, rfl, hs, hd, al, so, dp, q⟩ := h
  obtain ⟨its, rv, pl, hz⟩ := I.list hs
  obtain ⟨e1, e2⟩ := each_zip I hd rv
  rw [Vals.ref1 r]
  have em : (xs.zip ds).map Prod.snd = ds := List.map_snd_zip (Nat.le_of_eq (dp_len hd).symm)
  have lz : (xs.zip ds).length = xs.length := by rw [List.length_zip, dp_len hd, Nat.min_self]
  refine sorted_data (enc := Prod.snd) pl.isList e1 e2 (by rw [em]; exact al) (by rw [em]; exact so) (by rw [lz]; exact hz) (fun b hb => ?_) fun out hl eo => ?_
  · have := dp b.2 (List.of_mem_zip hb).2
    omega
  · obtain ⟨ep, he'⟩ := PyProof.Rows.sortedAll_at s.heap its out.toArray
    refine ⟨.ref _, upd H (s.heap.objs.size + 1) (.lst (((xs.zip ds).mergeSort (dataLe false Prod.snd)).map Prod.fst)), I.laid (t' := s.toks) (fun _ _ => PyProof.Rows.sortedAll_old) (Nat.le_succ _) ⟨?_, out, ep, vals_each eo, he'⟩, rfl, q _ (I.hok.fresh (Nat.le_succ _))⟩
    rw [List.length_map, List.length_mergeSort, lz]; exact hz
end
def encD (q : List Int × Int) : Dt := .tup true [intT' q.1, .int q.2]
def encP (q : List Int × Int) : PyData := .tuple [intP q.1, .int q.2]
theorem pd_encD (q : List Int × Int) : pd (encD q) = encP q := by
  show PyData.tuple [pd (intT' q.1), .int q.2] = _
  rw [pd_intT]; rfl
theorem pairs_dp {K : PySem.W.Frag} {H : Hp} {S : AS} {xs : List V} {rows : List (List Int × Int)} (h : Ocs H S xs (rows.map encD)) : DpAll K H xs (rows.map encP) := by
  have := h.dp (K := K) (pl_of_map (fun q => by show Dt.plAll [intT' q.1, .int q.2] = true; rw [Dt.plAll, show (intT' q.1).pl = true from pl_ints _]; rfl) _)
  rw [pdAll_map, List.map_map] at this
  have e : (rows.map (pd ∘ encD)) = rows.map encP := List.map_congr_left fun x _ => pd_encD x
  rw [e] at this
  exact this
theorem depth_encP (q : List Int × Int) : (encP q).depth = 2 := by
  unfold encP
  have h2 : PyData.depth (intP q.1) = 1 := by unfold intP; rw [PyData.depth, depth_ints]
  simp [PyData.depth, PyData.depthAll, h2]
theorem alike_encP (p q : List Int × Int) : alike (encP p) (encP q) = true := by
  unfold encP
  have e : alike (intP p.1) (intP q.1) = true := by
    show alike (.tuple _) (.tuple _) = true
    rw [alike]; exact alike_ints _ _
  simp [alike, alikeAll, e]
theorem ocs_zip {H : Hp} {S : AS} (f : α → Dt) : ∀ {vs : List V} {rs : List α}, Ocs H S vs (rs.map f) → ∀ z ∈ vs.zip rs, Oc H S z.1 (f z.2)
  | _, [], .nil, z, hz => by simp at hz
  | _, r :: rs, .cons h t, z, hz => by
    rw [List.zip_cons_cons] at hz
    rcases List.mem_cons.mp hz with rfl | hz
    · exact h
    · exact ocs_zip f t z hz
theorem ocs_of {H : Hp} {S : AS} (f : α → Dt) : ∀ (l : List (V × α)), (∀ z ∈ l, Oc H S z.1 (f z.2)) → Ocs H S (l.map Prod.fst) (l.map fun z => f z.2)
  | [], _ => .nil
  | z :: r, h => .cons (h z List.mem_cons_self) (ocs_of f r fun y hy => h y (List.mem_cons_of_mem _ hy))
def sortP (rows : List (List Int × Int)) : List (List Int × Int) := rows.mergeSort (dataLe false encP)
section
variable {σ : L2.St} {H : Hp} {S : AS} {K : PySem.W.Frag}
theorem none_back {H H1 : Hp} {t : Addr} (k : Same H H1) (h : H1 t = none) : H t = none := by
  cases e : H t with
  | none => rfl
  | some o => rw [k _ _ e] at h; cases h
theorem D_sortPF {tl : TE} {rows : List (List Int × Int)} (hl : DE tl σ H S (.lst (rows.map encD))) (H1 : Hp) (S1 : AS) (Q : VK) (x : Lift H S H1 S1) (q : ∀ v H2, Same H1 H2 → Oc H2 S1 v (.lst ((sortP rows).map encD)) → (∀ a, v = .ref a → H1 a = none) → Q v H2) : (tCB (rSortD K) (tCons tl tNil)) σ H1 Q :=
  hl H1 S1 _ x fun v H2 k o => by
    obtain ⟨a, xs, rfl, ea, na, oa⟩ := o.lst_inv
    have len := oa.len
    rw [List.length_map] at len
    refine ⟨a, xs, rows.map encP, rfl, SqL.of ea, pairs_dp oa, fun d hd e he => ?_, Sortable.tuples fun b => ⟨_, _, rfl⟩, fun d hd => ?_, fun p hp => ?_⟩
    · obtain ⟨b, _, rfl⟩ := List.mem_map.mp hd
      obtain ⟨c, _, rfl⟩ := List.mem_map.mp he
      exact alike_encP b c
    · obtain ⟨b, _, rfl⟩ := List.mem_map.mp hd
      rw [depth_encP]; decide
    · refine q _ _ (k.trans (same_upd hp)) (.lst upd_same (Lv.out (Lv.same k x.live) hp) ?_) fun b eb => by cases eb; exact none_back k hp
      let le2 : V × (List Int × Int) → V × (List Int × Int) → Bool := dataLe false fun z => encP z.2
      have e1 : (xs.zip (rows.map encP)).mergeSort (dataLe false Prod.snd) = ((xs.zip rows).mergeSort le2).map fun z => (z.1, encP z.2) := by
        rw [List.zip_map_right, List.map_mergeSort (r := le2) (s := dataLe false Prod.snd) fun a _ b _ => rfl]
        rfl
      have e2 : sortP rows = ((xs.zip rows).mergeSort le2).map Prod.snd := by
        rw [List.map_mergeSort (r := le2) (s := dataLe false encP) fun a _ b _ => rfl, List.map_snd_zip (by omega)]
        rfl
      rw [e1, e2, List.map_map, List.map_map]
      refine (ocs_of encD _ fun z hz => ?_).same (same_upd hp)
      exact ocs_zip encD oa z ((List.mergeSort_perm _ _).mem_iff.mp hz)
theorem D_sortP {tl : TE} {rows : List (List Int × Int)} (hl : DE tl σ H S (.lst (rows.map encD))) : DE (tCB (rSortD K) (tCons tl tNil)) σ H S (.lst ((sortP rows).map encD)) := fun H1 S1 Q x q => D_sortPF hl H1 S1 Q x fun v H2 k o _ => q v H2 k o
theorem D_sortG {α : Type} {f : α → Dt} {enc : α → PyData} {tl : TE} {rows : List α} (hpl : ∀ a, (f a).pl = true := by first | (intro a; rfl) | (intro a; exact pl_ints _)) (hpd : ∀ a, pd (f a) = enc a) (hal : ∀ a b, alike (enc a) (enc b) = true) (hso : Sortable (rows.map enc)) (hdp : ∀ a, (enc a).depth ≤ 16) (hl : DE tl σ H S (.lst (rows.map f))) : DE (tCB (rSortD K) (tCons tl tNil)) σ H S (.lst ((rows.mergeSort (dataLe false enc)).map f)) := fun H1 S1 Q x q =>
  hl H1 S1 _ x fun v H2 k o => by
    obtain ⟨a, xs, rfl, ea, na, oa⟩ := o.lst_inv
    have len := oa.len
    rw [List.length_map] at len
    have dps : DpAll K H2 xs (rows.map enc) := by
      have := oa.dp (K := K) (pl_of_map hpl _)
      rw [pdAll_map, List.map_map] at this
      have e : (rows.map (pd ∘ f)) = rows.map enc := List.map_congr_left fun x _ => hpd x
      rw [e] at this
      exact this
    refine ⟨a, xs, rows.map enc, rfl, SqL.of ea, dps, fun d hd e he => ?_, hso, fun d hd => ?_, fun p hp => ?_⟩
    · obtain ⟨b, _, rfl⟩ := List.mem_map.mp hd
      obtain ⟨c, _, rfl⟩ := List.mem_map.mp he
      exact hal b c
    · obtain ⟨b, _, rfl⟩ := List.mem_map.mp hd
      exact hdp b
    · refine q _ _ (k.trans (same_upd hp)) (.lst upd_same (Lv.out (Lv.same k x.live) hp) ?_)
      let le2 : V × α → V × α → Bool := dataLe false fun z => enc z.2
      have e1 : (xs.zip (rows.map enc)).mergeSort (dataLe false Prod.snd) = ((xs.zip rows).mergeSort le2).map fun z => (z.1, enc z.2) := by
        rw [List.zip_map_right, List.map_mergeSort (r := le2) (s := dataLe false Prod.snd) fun a _ b _ => rfl]
        rfl
      have e2 : rows.mergeSort (dataLe false enc) = ((xs.zip rows).mergeSort le2).map Prod.snd := by
        rw [List.map_mergeSort (r := le2) (s := dataLe false enc) fun a _ b _ => rfl, List.map_snd_zip (by omega)]
      rw [e1, e2, List.map_map, List.map_map]
      refine (ocs_of f _ fun z hz => ?_).same (same_upd hp)
      exact ocs_zip f oa z ((List.mergeSort_perm _ _).mem_iff.mp hz)
/-- xs[1:] -/
theorem D_slice1 {ts : TE} {ds : List Dt} (hl : DE ts σ H S (.lst ds)) : DE (tSl (rSlL K) ts (tPart (tC (.int 1))) tNoPart) σ H S (.lst (ds.drop 1)) := fun H1 S1 Q x q =>
  hl H1 S1 _ x fun v H2 k o => by
    obtain ⟨a, xs, rfl, ea, na, oa⟩ := o.lst_inv
    refine ⟨1, rfl, a, xs, rfl, SqL.of ea, fun p hp => ?_⟩
    rw [cut1]
    refine q _ _ (k.trans (same_upd hp)) (.lst upd_same (Lv.out (Lv.same k x.live) hp) ?_)
    cases oa with
    | nil => exact .nil
    | cons h t => exact t.same (same_upd hp)
/-- [e for a, b in zip(xs, ys)] -/
theorem D_lcZ {i1 i2 : Nat} {ta tb te : TE} {ds es : List Dt} {f : Dt × Dt → Dt} (ha : DE ta σ H S (.lst ds)) (hb : DE tb σ H S (.lst es)) (hz : ds.length ≤ 999999) (hw : ∀ x y : V, wipe (((wipe σ [i1, i2]).set i1 (some x)).set i2 (some y)) [i1, i2] = wipe σ [i1, i2])
    (hs : ∀ v u d e H1 S1, (d, e) ∈ ds.zip es → Lift H S H1 S1 → Oc H1 S1 v d → Oc H1 S1 u e → DE te (((wipe σ [i1, i2]).set i1 (some v)).set i2 (some u)) H1 S1 (f (d, e))) :
    DE (tLc (iZipA K (tCons ta (tCons tb tNil))) (gTup K 2 (gCons (gName i1) (gCons (gName i2) gNil))) tYes te [i1, i2]) σ H S (.lst ((ds.zip es).map f)) := fun H1 S1 Q x q =>
  ha H1 S1 _ x fun va H2 k o => (hb.lift (x.then k)).go (Lv.same k x.live) fun vb H3 k3 o3 => by
    obtain ⟨a, xs, rfl, ea, na, oa⟩ := (o.same k3).lst_inv
    obtain ⟨b, ys, rfl, eb, nb, ob⟩ := o3.lst_inv
    have l1 := oa.len
    have l2 := ob.len
    have L3 := Lv.same k3 (Lv.same k x.live)
    have x3 := (x.then k).then k3
    refine ⟨a, b, xs, ys, rfl, .inl ⟨SqL.of ea, SqL.of eb, fun D hD => ?_⟩⟩
    have lz : (ds.zip es).length ≤ 999999 := by rw [List.length_zip]; omega
    refine ⟨fun i m H' => m = (ds.zip es).length - i ∧ i ≤ (ds.zip es).length ∧ Made H3 S1 D (((ds.zip es).take i).map f) H', ⟨_, rfl, Nat.zero_le _, Made.nil hD⟩, ?_⟩
    rintro i m H' ⟨rfl, hi, md⟩
    by_cases lt : i < (ds.zip es).length
    · have lt2 := lt
      rw [List.length_zip] at lt2
      have gx : xs[i]? = some xs[i] := List.getElem?_eq_getElem (by omega)
      have gy : ys[i]? = some ys[i] := List.getElem?_eq_getElem (by omega)
      obtain ⟨d, gd, od⟩ := oa.get gx
      obtain ⟨e', ge, oe⟩ := ob.get gy
      have gz : (ds.zip es)[i]? = some (d, e') := by rw [List.getElem?_zip_eq_some]; exact ⟨gd, ge⟩
      refine .inr ⟨⟨xs, ys, _, _, SqL.of (md.same _ _ ea), SqL.of (md.same _ _ eb), gx, gy⟩, fun H2 => Made H3 S1 D (((ds.zip es).take (i + 1)).map f) H2, fun H2 h2 => ⟨_, by omega, rfl, lt, h2⟩, ?_⟩
      rintro v H4 ⟨t, x', y', rfl, ht, rfl, fx, fy⟩
      have ex : x' = xs[i] := Option.some.inj ((fx _ (SqL.of (md.same _ _ ea))).symm.trans gx)
      have ey : y' = ys[i] := Option.some.inj ((fy _ (SqL.of (md.same _ _ eb))).symm.trans gy)
      subst ex; subst ey
      have kt := same_upd (o := .tup [xs[i], ys[i]]) ht
      have lf := (md.lift L3 hD).then kt
      refine ⟨t, _, rfl, SqT.of upd_same, rfl, _, _, rfl, _, _, rfl, rfl, ?_⟩
      refine ⟨hw _ _, (hs _ _ d e' _ _ (List.mem_of_getElem? gz) (x3.trans lf) (lf.ob od) (lf.ob oe)).go lf.live fun z H5 k5 o5 => ?_⟩
      obtain ⟨acc, e1, e2, m2⟩ := md.step hD (kt.trans k5) o5 (by rw [List.length_map]; have := List.length_take_le i (ds.zip es); have := List.length_take_le' i (ds.zip es); omega)
      refine ⟨acc, e1, e2, ?_⟩
      rw [List.take_add_one, gz, List.map_append]; exact m2
    · have ei : i = (ds.zip es).length := by omega
      subst ei
      rw [List.take_length] at md
      refine .inl ⟨⟨xs, ys, SqL.of (md.same _ _ ea), SqL.of (md.same _ _ eb), ?_⟩, q _ _ ((k.trans k3).trans md.same) (md.done L3 hD)⟩
      rw [List.length_zip]; omega
end
end Lc

namespace Lc
open PySem PySem.Spec PyProof.Rows L2 RZ PySem.W
/-! ### t[lo:hi] of a tuple that has no dict -/
section
variable {X : Cx}
def rSlF (K : PySem.W.Frag) : V → Option Int → Option Int → Hp → VK → Prop := fun x lo hi H Q => ∃ a xs, x = .ref a ∧ SqT K H a xs ∧
  (HT.sIx xs.length 0 lo = 0 ∧ HT.sIx xs.length xs.length hi = xs.length → Q (.ref a) H) ∧ (¬ (HT.sIx xs.length 0 lo = 0 ∧ HT.sIx xs.length xs.length hi = xs.length) → ∀ p H2, H p = none → Same H H2 → Tp H2 p true (cutV xs lo hi) → Q (.ref p) H2)
theorem sl_tupF : SlR X (rSlF X.K) := by
  intro pins s σ H x v vl vu lo hi sl Q I rx hs pl pu h
  obtain ⟨a, xs, rfl, hx, q1, q2⟩ := h
  by_cases hw : HT.sIx xs.length 0 lo = 0 ∧ HT.sIx xs.length xs.length hi = xs.length
  · exact sl_tupA pins s σ H _ v vl vu lo hi sl Q I rx hs pl pu ⟨a, xs, rfl, hx, q1, fun n => absurd hw n⟩
  · cases rx
    obtain ⟨its, r, ht, hz⟩ := I.tuple hx
    have hlen : its.toArray.size = xs.length := by rw [List.size_toArray]; exact r.length.symm
    refine ⟨"tuple", _, PyProof.Rows.slot_tuple_getitem.lookup, ht.typeIs, ?_⟩
    refine HT.getItem_tuple_cut ht hs pl pu (by rw [hlen]; exact hw) ?_ (by rw [hlen]; exact hz)
    rw [hlen]
    have hf : H s.heap.objs.size = none := I.hok.fresh (Nat.le_refl _)
    refine ⟨.ref s.heap.objs.size, _, I.laid (t' := s.toks) (o := .frz { cls := .type "tuple", data := .seq ((its.drop (HT.sIx xs.length 0 lo)).take (HT.sIx xs.length xs.length hi - HT.sIx xs.length 0 lo)).toArray } (.tup (cutV xs lo hi))) (fun b ob q => Heap.get?_push_of_some _ q) (Nat.le_refl _) ?_, rfl, q2 hw _ _ hf (same_upd hf) (.bare rfl rfl upd_same)⟩
    exact ⟨Heap.get?_push_size _ rfl, Nat.le_trans (cutV_length xs lo hi) hz, _, (r.drop (HT.sIx xs.length 0 lo)).take (HT.sIx xs.length xs.length hi - HT.sIx xs.length 0 lo), IsTup.new _ _⟩
theorem sl_tupFK (K : PySem.W.Frag) (h : X.K = K := by rfl) : SlR X (rSlF K) := h ▸ sl_tupF
end
/-! ### enumerate(a tuple) -/
section
variable {prog : Program} {w : World} {A : Around} {E : Value → Shared → Prop} {s : Shared}
theorem wpAny_pyNext_enum_endT {e it t : Addr} {i : Nat} {c : Int} {items : Array Value} {old : Value} {Q : Option Value → Shared → Prop} (hh : A.handled = none) (hai : t ≠ it) (he : IsEnum s.heap e it c old) (hit : s.heap.IsTupleIter it t i) (ht : s.heap.IsTuple t items) (hx : items[i]? = none)
    (hQ : ∀ h', Heap.ExtBut it s.heap h' → Q none { s with heap := h' }) : wpAny (model prog w) A (pyNext (.ref e)) Q E s := by
  have hT : s.TypeIs (.ref e) "enumerate" := ⟨_, he, rfl⟩
  unfold pyNext
  refine wpAny_bind (wpAny_attempt (wpAny_callSpecial?_slot (name := Str.ofString "__next__") hT F.slot_enumerate_next
    (wpAny_call_entry F.slot_enumerate_next hT F.entry_enumerate_next ?_ (F.args_enumerate_next_1 _))))
  show wpAny _ _ (field (.ref e) 2 >>= _) _ _ _
  refine wpAny_bind (wpAny_field he rfl (x := .ref it) rfl ?_)
  refine wpAny_bind (wpAny_nextOf_tuple_end (by exact hh) hit ht hx fun h' x he' hx' => ?_)
  obtain ⟨o, ho, hc⟩ := hx'
  refine wpAny_bind (wpAny_isInstance (T := "StopIteration") (b := true) ⟨o, ho, hc⟩ isSubtype_stop ?_)
  exact wpAny_pure (hQ _ he')
theorem meets_enumerate_newT {v : Value} {o : Obj} {H : Heap → Prop} (B : Begins v o H) :
    Meets (Builtin.«enumerate.__new__» ⟨[.type "enumerate", v], []⟩) (fun _ R s => H s.heap ∧
      R (.ok (.ret (.ref (s.heap.push o).objs.size))) { s with heap := (s.heap.push o).push { cls := .type "enumerate", data := .fields #[.none, .bool false, .ref s.heap.objs.size, rawInt 0, .none, .none] } }) :=
  .of_wp fun prog w A R s h => by
    obtain ⟨hp, g, d, tk, os⟩ := s; obtain ⟨h1, h⟩ := h
    have hsub := sub_enumerate
    have q1 : ∀ {A' : Around} {E : Value → Shared → Prop} {Q : Value → Shared → Prop}, Q (.ref hp.objs.size) ⟨hp.push o, g, d, tk, os⟩ → wpAny (model prog w) A' (pyIter v) Q E ⟨hp, g, d, tk, os⟩ :=
      fun q => B.iter prog w _ _ ⟨hp, g, d, tk, os⟩ _ h1 q
    wp_walk using q1
    refine wpAny_stack_any fun st => wpAny_pure ?_
    split
    · rename_i c _ _ _ _ _
      cases (c == Value.type "enumerate")
      · wp_walk using q1
        exact ⟨_, rfl, h⟩
      · wp_walk using q1
        exact ⟨_, rfl, h⟩
    · wp_walk using q1
      exact ⟨_, rfl, h⟩
theorem enum_begins1 {v : Value} {o : Obj} {H : Heap → Prop} {Q : Value → Shared → Prop} (B : Begins v o H) (h1 : H s.heap)
    (h : ∀ h', IsEnum h' (s.heap.objs.size + 1) s.heap.objs.size 0 .none → h'.get? s.heap.objs.size = some o → h'.objs.size = s.heap.objs.size + 2 →
      (∀ b o, s.heap.get? b = some o → h'.get? b = some o) → Q (.ref (s.heap.objs.size + 1)) { s with heap := h' }) :
    wpAny (model prog w) A (call (.type "enumerate") [v]) Q E s := by
  refine callType_new F.called_enumerate (by decide) (F.typeCall_enumerate_1 _) (F.newCall_enumerate_1 _) (fun obj => F.args_object_init_2 obj _) F.entry_enumerate_new
    (meets_enumerate_newT B) ⟨h1, ?_⟩
  have hz : (s.heap.push o).objs.size = s.heap.objs.size + 1 := Heap.size_push ..
  show _ ∧ _
  rw [hz]
  have he : IsEnum ((s.heap.push o).push { cls := .type "enumerate", data := .fields #[.none, .bool false, .ref s.heap.objs.size, rawInt 0, .none, .none] }) (s.heap.objs.size + 1) s.heap.objs.size 0 .none := by
    have := Heap.get?_push_size (s.heap.push o) (o := { cls := .type "enumerate", data := .fields #[.none, .bool false, .ref s.heap.objs.size, rawInt 0, .none, .none] }) rfl
    rw [hz] at this; exact this
  refine ⟨⟨_, he, rfl⟩, h _ he (Heap.get?_push_of_some _ (Heap.get?_push_size _ B.free)) (by rw [Heap.size_push, hz]) fun b o x => Heap.get?_push_of_some _ (Heap.get?_push_of_some _ x)⟩
end
def IteT (K : PySem.W.Frag) (a : Addr) : It :=
  ⟨fun i H => ∃ (xs : List V) (x : V), SqT K H a xs ∧ xs[i]? = some x, fun i H v H' => ∃ T x, v = .ref T ∧ H T = none ∧ H' = upd H T (.tup [.int (i : Nat), x]) ∧ ∀ xs, SqT K H a xs → xs[i]? = some x, fun i H => ∃ xs : List V, SqT K H a xs ∧ xs.length ≤ i⟩
theorem turn_enumT {P : Program} {w : World} {K : PySem.W.Frag} {elts : List Expr} {kk : Nat} {tpos : Pos} (a e it : Addr) (hai : a ≠ it) (hae : a ≠ e) :
    Turn P w K (.Tuple elts kk tpos) (IteT K a) [e, it] e (fun i h => (∃ old, IsEnum h e it ((i : Nat) : Int) old) ∧ h.IsTupleIter it a i ∧ e ≠ it) where
  mem := by simp
  obj := fun i h st b hb => by
    obtain ⟨⟨old, he⟩, ⟨o, ho, hc, hd⟩, _⟩ := st
    have e' : b = e ∨ b = it := by simpa using hb
    rcases e' with z | z
    · rw [z]; exact ⟨_, he, fun v q => nomatch q⟩
    · rw [z]; exact ⟨o, ho, fun v q => by rw [hd] at q; cases q⟩
  keep := fun i h h' st k => let ⟨⟨old, he⟩, hi, hne⟩ := st; ⟨⟨old, k e (by simp) _ he⟩, hi.at fun o q => k it (by simp) o q, hne⟩
  item := by
    intro X hP hw hK hc i pins s σ H E I hf st hg
    subst hP hw hK
    obtain ⟨⟨old, he⟩, hit, hne⟩ := st
    obtain ⟨xs, x, hq, hx⟩ := hg
    obtain ⟨its, rv, p, hz⟩ := I.tuple hq
    obtain ⟨u, hu, ru⟩ := rv.get hx
    have hel : e < s.heap.objs.size := Heap.lt_size he
    have hil : it < s.heap.objs.size := by obtain ⟨_, q, _⟩ := hit; exact Heap.lt_size q
    have hlt : i < its.toArray.size := by
      have := (List.getElem?_eq_some_iff.mp hu).1
      simpa using this
    refine wpAny_pyNext_enum_itemD (Draws.tuple (by exact I.ok.hd hc) it a hai its.toArray) he ⟨hit, p⟩ hlt hne (by simp [Ne.symm hae, hne]) fun y h' tk hy ho hst hT hsz hk => ?_
    have ey : y = u := by
      have h1 : its.toArray[i]? = some u := by simpa using hu
      rw [h1] at hy; exact (Option.some.inj hy).symm
    subst ey
    refine ⟨_, rfl, wpAny_letOwnedTupleGo_enum (s := { s with heap := h', toks := tk + 1 }) ho fun h'' he' sb => ?_⟩
    have hT2 : h''.get? s.heap.objs.size = some { cls := .type "tuple", data := .seq #[.int i tk, y] } := (sb.2 _ (Nat.ne_of_gt hel)).trans hT
    have new : ObjOk X.prog X.w (upd H s.heap.objs.size (.tup [.int (i : Nat), x])) h'' s.heap.objs.size (.tup [.int (i : Nat), x]) :=
      ⟨by show 2 ≤ sizeLine; decide, [.int i tk, y], .cons ⟨_, rfl⟩ (.cons ru .nil), ⟨_, hT2, rfl, _, rfl⟩⟩
    have I1 : Inv X pins σ (upd H s.heap.objs.size (.tup [.int (i : Nat), x])) { s with heap := h'', toks := tk + 1 } :=
      I.turnedNew (ch := [e, it]) (fun b ob hb q => (sb.2 b (fun z => hb (by simp [z]))).trans (hk b ob (fun z => hb (by simp [z])) (fun z => hb (by simp [z])) q)) hf (Nat.le_refl _) new
    refine ⟨.ref s.heap.objs.size, _, I1, rfl, ⟨_, x, rfl, I.hok.fresh (Nat.le_refl _), rfl, fun ys hy => by rw [I.tuple_inj hy hq]; exact hx⟩, ⟨⟨y, ?_⟩, hst.1.at fun o q => (sb.2 it (Ne.symm hne)).trans q, hne⟩, fun b hb => ?_⟩
    · have e1 : ((i + 1 : Nat) : Int) = (i : Int) + 1 := by omega
      rw [e1]; exact he'
    · have hb' : b < s.heap.objs.size := by
        have e' : b = e ∨ b = it := by simpa using hb
        rcases e' with z | z
        · rw [z]; exact hel
        · rw [z]; exact hil
      rw [upd_ne (Nat.ne_of_lt hb')]
      exact (hf b hb).1
  done := by
    intro X hP hw hK hc i pins s σ H E I hf st hg
    subst hP hw hK
    obtain ⟨⟨old, he⟩, hit, hne⟩ := st
    obtain ⟨xs, hq, hx⟩ := hg
    obtain ⟨its, rv, p, hz⟩ := I.tuple hq
    obtain ⟨f0, f1, f2, f3, f4, f5⟩ := hf it (by simp)
    have hl := rv.length
    refine wpAny_pyNext_enum_endT (I.ok.hd hc) hai he hit p (by simp; omega) fun h' eb => ⟨rfl, I.turned (t' := s.toks) (fun b o hb q => eb b o hb q) f0 f1 f3 f4 f5⟩
  self := fun A i s Q E st h => let ⟨⟨_, he⟩, _⟩ := st; wpAny_pyIter_enum he h
/-- enumerate over a tuple -/
def iEnumT (K : PySem.W.Frag) (ta : TA) : TI := fun σ H R => ta σ H fun vs H1 => ∃ a xs, vs = [.ref a] ∧ SqT K H1 a xs ∧ R (IteT K a) H1
theorem pi_enumT {X : Cx} {e : Expr} {ta : TA} {p pos tpos : Pos} {elts : List Expr} {kk : Nat} (hg : Gl X "enumerate") (hm : X.mg "enumerate" = none) (ha : PA X [e] ta) (hs : starEach [e] X.env = [(false, eval e X.env)] := by rfl) :
    PI X (.Tuple elts kk tpos) (.Call (.Name "enumerate" p) [e] [] pos) (iEnumT X.K ta) := by
  refine ⟨fun pins s σ H R I h => ?_⟩
  refine Call_ (ld_blt I hg hm boot_enumerate (PyProof.Rows.callWith_type1 (thn (ha.run pos pins s σ H _ I h) fun us s1 ⟨vs, H1, I1, r1, q1⟩ => ?_) hs rfl))
  obtain ⟨a, xs, ex, hq, q⟩ := q1
  subst ex
  cases r1 with
  | cons r rr =>
    cases rr
    cases r
    obtain ⟨its, rv, p', hz⟩ := I1.tuple hq
    have p2 : s1.heap.IsTuple a its.toArray := p'
    obtain ⟨o1, ho1, _⟩ := id p2
    have al := Heap.lt_size ho1
    refine enum_begins1 (begins_tuple a its.toArray) p2 fun h' he hit hsz hk => wpAny_pyIter_enum he ?_
    have I2 : Inv X pins σ H1 { s1 with heap := h' } := I1.kept (t' := s1.toks) hk
    refine ⟨s1.heap.objs.size + 1, [s1.heap.objs.size + 1, s1.heap.objs.size], _, _, H1, rfl, I2, turn_enumT a (s1.heap.objs.size + 1) s1.heap.objs.size (Nat.ne_of_lt al) (Nat.ne_of_lt (Nat.lt_succ_of_lt al)), ⟨⟨.none, he⟩, ⟨_, hit, rfl, rfl⟩, Nat.succ_ne_self _⟩, fun b hb => ?_, q⟩
    have e' : b = s1.heap.objs.size + 1 ∨ b = s1.heap.objs.size := by simpa using hb
    have hle : s1.heap.objs.size ≤ b := by
      rcases e' with z | z
      · rw [z]; exact Nat.le_add_right _ _
      · rw [z]; exact Nat.le_refl _
    exact I1.fpOk hle (I1.hok.fresh hle)
theorem pi_enumTK {X : Cx} (K : PySem.W.Frag) {e : Expr} {ta : TA} {p pos tpos : Pos} {elts : List Expr} {kk : Nat} (hg : Gl X "enumerate") (hm : X.mg "enumerate" = none) (ha : PA X [e] ta) (h : X.K = K := by rfl) (hs : starEach [e] X.env = [(false, eval e X.env)] := by rfl) :
    PI X (.Tuple elts kk tpos) (.Call (.Name "enumerate" p) [e] [] pos) (iEnumT K ta) := h ▸ pi_enumT hg hm ha hs
theorem zi_get {ds : List Dt} {i : Nat} {d : Dt} (h : ds[i]? = some d) : ds.zipIdx[i]? = some (d, i) := by
  rw [List.getElem?_zipIdx, h]; simp
theorem zi_len (ds : List Dt) (r : Dt × Nat → Option Dt) (i : Nat) (h : ds.length ≤ 999999) : ((ds.zipIdx.take i).filterMap r).length < 1000000 := by
  have := List.length_filterMap_le r (ds.zipIdx.take i)
  have h2 := List.length_take_le' i ds.zipIdx
  rw [List.length_zipIdx] at h2
  omega
theorem zi_succ {ds : List Dt} {r : Dt × Nat → Option Dt} {i : Nat} {d : Dt} (h : ds[i]? = some d) : (ds.zipIdx.take (i + 1)).filterMap r = (ds.zipIdx.take i).filterMap r ++ (r (d, i)).toList := by
  rw [List.take_add_one, zi_get h, List.filterMap_append]
  show _ ++ List.filterMap r [(d, i)] = _
  cases e : r (d, i) <;> simp [List.filterMap, e]
/-- [e for i, x in enumerate(t) if ..] over a tuple -/
theorem D_lcE {K : PySem.W.Frag} {σ : L2.St} {H : Hp} {S : AS} {i1 i2 : Nat} {ta te : TE} {tt : TT} {z : Bool} {ds : List Dt} {r : Dt × Nat → Option Dt} (ha : DE ta σ H S (.tup z ds)) (hz : ds.length ≤ 999999) (hw : ∀ x y : V, wipe (((wipe σ [i1, i2]).set i1 (some x)).set i2 (some y)) [i1, i2] = wipe σ [i1, i2])
    (hs : ∀ v d (i : Nat) H1 S1, ds[i]? = some d → Lift H S H1 S1 → Oc H1 S1 v d → ∃ b, DT tt (((wipe σ [i1, i2]).set i1 (some (.int (i : Nat)))).set i2 (some v)) H1 S1 b ∧ (b = true → ∃ e, r (d, i) = some e ∧ DE te (((wipe σ [i1, i2]).set i1 (some (.int (i : Nat)))).set i2 (some v)) H1 S1 e) ∧ (b = false → r (d, i) = none)) :
    DE (tLc (iEnumT K (tCons ta tNil)) (gTup K 2 (gCons (gName i1) (gCons (gName i2) gNil))) tt te [i1, i2]) σ H S (.lst (ds.zipIdx.filterMap r)) := fun H1 S1 Q x q =>
  ha H1 S1 _ x fun va H2 k o => by
    obtain ⟨a, xs, rfl, ea, na, oa⟩ := o.tup_inv
    have l1 := oa.len
    have L2 := Lv.same k x.live
    have x3 := x.then k
    refine ⟨a, xs, rfl, ea.sq, fun D hD => ?_⟩
    refine ⟨fun i m H' => m = ds.length - i ∧ i ≤ ds.length ∧ Made H2 S1 D ((ds.zipIdx.take i).filterMap r) H', ⟨_, rfl, Nat.zero_le _, Made.nil hD⟩, ?_⟩
    rintro i m H' ⟨rfl, hi, md⟩
    by_cases lt : i < ds.length
    · have gx : xs[i]? = some xs[i] := List.getElem?_eq_getElem (by omega)
      obtain ⟨d, gd, od⟩ := oa.get gx
      refine .inr ⟨⟨xs, _, (ea.same md.same).sq, gx⟩, fun H2' => Made H2 S1 D ((ds.zipIdx.take (i + 1)).filterMap r) H2', fun H2' h2 => ⟨_, by omega, rfl, lt, h2⟩, ?_⟩
      rintro v H4 ⟨t, x', rfl, ht, rfl, fx⟩
      have ex : x' = xs[i] := Option.some.inj ((fx _ (ea.same md.same).sq).symm.trans gx)
      subst ex
      have kt := same_upd (o := .tup [.int (i : Nat), xs[i]]) ht
      have lf := (md.lift L2 hD).then kt
      refine ⟨t, _, rfl, SqT.of upd_same, rfl, _, _, rfl, _, _, rfl, rfl, ?_⟩
      obtain ⟨b, hb, h1, h0⟩ := hs _ d i _ _ gd (x3.trans lf) (lf.ob od)
      refine ⟨hw _ _, hb.go lf.live fun H5 k5 => ?_⟩
      cases b with
      | true =>
        obtain ⟨e, er, he⟩ := h1 rfl
        have lf5 := lf.then k5
        refine iteT ((he.lift ((Lift.refl lf.live).then k5)).go lf5.live fun y H6 k6 o6 => ?_)
        obtain ⟨acc, e1, e2, m2⟩ := md.step hD ((kt.trans k5).trans k6) o6 (zi_len ds r i hz)
        refine ⟨acc, e1, e2, ?_⟩
        rw [zi_succ gd, er]; exact m2
      | false =>
        refine iteF ?_
        rw [zi_succ gd, h0 rfl]
        show Made _ _ _ (_ ++ []) _
        rw [List.append_nil]
        obtain ⟨vs, e, oc⟩ := md.acc
        exact ⟨md.same.trans (kt.trans k5), vs, k5 _ _ (kt _ _ e), oc.same (kt.trans k5)⟩
    · have e : i = ds.length := by omega
      subst e
      refine .inl ⟨⟨xs, (ea.same md.same).sq, by omega⟩, ?_⟩
      rw [show ds.zipIdx.take ds.length = ds.zipIdx by rw [← List.length_zipIdx (l := ds)]; exact List.take_length] at md
      exact q _ _ (k.trans md.same) (md.done L2 hD)
end Lc

namespace Lc
open PySem PySem.Spec PyProof.Rows L2 RZ PySem.W
/-! ### a range held -/
section
variable {X : Cx}
theorem cr_range1 : CallR X (.type "range") (fun vs H Q => ∃ j, vs = [V.int j] ∧ ∀ p, H p = none → Q (.ref p) (upd H p (.rng 0 j))) := by
  intro pins s σ H vs us Q I r h
  obtain ⟨j, rfl, q⟩ := h
  cases r with
  | cons r rr =>
    cases rr
    obtain ⟨t, rfl⟩ := r
    refine call_range_1 ⟨.ref s.heap.objs.size, upd H s.heap.objs.size (.rng 0 j), I.laid (t' := s.toks + 1 + 1) (fun b o e => Heap.get?_push_of_some _ e) (Nat.le_refl _) ?_, rfl, q _ (I.hok.fresh (Nat.le_refl _))⟩
    exact ⟨s.toks, t, s.toks + 1, Heap.get?_push_size _ rfl⟩
def iRngV (te : TE) : TI := fun σ H R => te σ H fun x H1 => ∃ (p : Addr) (lo hi : Int), x = .ref p ∧ H1 p = some (.rng lo hi) ∧ (-(2 ^ 62) ≤ lo ∧ lo < 2 ^ 62 ∧ -(2 ^ 62) ≤ hi ∧ hi < 2 ^ 62) ∧ R (Itr lo (hi - lo).toNat) H1
theorem pi_rngV {tg e : Expr} {te : TE} (he : PE X e te) : PI X tg e (iRngV te) := by
  refine ⟨fun pins s σ H R I h => ?_⟩
  refine thn (he.run pins s σ H _ I h) fun v s1 ⟨x, H1, I1, r1, q1⟩ => ?_
  obtain ⟨p, lo, hi, e, hp, ⟨h1, h2, h3, h4⟩, q⟩ := q1
  subst e
  cases r1
  obtain ⟨t, u, v, ho⟩ := I1.hok p _ hp
  refine wpAny_pyIter_range (show IsRange s1.heap p lo hi 1 t u v from ho) (small_one h1 h2 h3 h4) ?_
  refine ⟨s1.heap.objs.size, [s1.heap.objs.size], _, _, H1, rfl, I1.kept (t' := s1.toks) fun b o e => Heap.get?_push_of_some _ e, turn_range _ lo (hi - lo).toNat, ?_, fun b hb => ?_, q⟩
  · have e1 : lo + ((0 : Nat) : Int) * 1 = lo := by simp
    have e2 : (((hi - lo).toNat : Nat) : Int) - ((0 : Nat) : Int) = Builtin.Range.rangeSize lo hi 1 := by rw [rangeSize_one]; split <;> omega
    show IsRangeIter _ _ (lo + ((0 : Nat) : Int) * 1) ((((hi - lo).toNat : Nat) : Int) - ((0 : Nat) : Int)) 1
    rw [e1, e2]
    exact Heap.get?_push_size _ rfl
  · have e : b = s1.heap.objs.size := by simpa using hb
    subst e
    exact I1.fpOk (Nat.le_refl _) (I1.hok.fresh (Nat.le_refl _))
end
/-! ### min(a list of ints, default=d) -/
theorem minD_intsL (x : Int) (xs : List Int) : minD (.int x) (xs.map PyData.int) = .int (minL (x :: xs)) := PySem.W.minD_ints x xs
def rMinDf (K : PySem.W.Frag) : List V → List V → Hp → VK → Prop := fun vs zs H Q => ∃ (a : Addr) (ns : List Int) (z : V), vs = [.ref a] ∧ zs = [z] ∧ SqL K H a (ns.map V.int) ∧ (ns = [] → Q z H) ∧ (ns ≠ [] → Q (.int (minL ns)) H)
theorem depth_ints (ns : List Int) : PyData.depthAll (ns.map PyData.int) = 0 := by
  induction ns with
  | nil => rfl
  | cons x r ih => rw [List.map_cons, PyData.depthAll, ih]; rfl
theorem crk_minD {X : Cx} (K : PySem.W.Frag) (hc : X.calm = true) (hu : X.A.units + 64 < cLine) (h : X.K = K := by rfl) : CallRK X (.builtin "min") ["default"] (rMinDf K) := by
  subst h
  intro pins s σ H vs zs us ws Q I r rz h
  obtain ⟨a, ns, z, rfl, rfl, hs, q0, q1⟩ := h
  obtain ⟨its, rv, pl, hz⟩ := I.list hs
  have hd := dp_ints (K := X.K) (H := H) ns
  obtain ⟨as, ra⟩ := Dp.readsAll I _ _ _ hd rv
  rw [Vals.ref1 r]
  cases rz with
  | cons rz rr =>
    cases rr
    refine min_list_default (I.ok.hd hc) pl.isList (by simpa using ra) (alike_int_all ns) (by rw [depth_ints]; omega) (fun e h' tk hk => ?_) fun y ys i v h' tk bs e hv hr hk => ?_
    · exact ⟨z, H, I.kept (t' := tk) hk, rz, q0 (List.map_eq_nil_iff.mp e)⟩
    · have hv' : its[i]? = some v := by rw [← hv]; simp
      obtain ⟨y', hy, ry⟩ := vals_at rv hv'
      obtain ⟨d, he, de⟩ := dp_at hd hy
      obtain ⟨cs, re⟩ := Dp.reads I _ _ _ de ry
      have ee := (PySem.Reads.unique (reads_keeps hk re) _ _ hr).1
      rw [List.getElem?_map] at hy he
      obtain ⟨n, hn, rfl⟩ := Option.map_eq_some_iff.mp hy
      rw [hn] at he
      have e3 := Option.some.inj (show some (PyData.int n) = some d from he)
      subst e3
      cases ns with
      | nil => cases hn
      | cons x r =>
        rw [List.map_cons] at e
        injection e with e1 e2
        subst e1; subst e2
        rw [minD_intsL] at ee
        injection ee with ee
        refine ⟨.int n, H, I.kept (t' := tk) hk, ry, ?_⟩
        rw [ee]
        exact q1 (by simp)
theorem D_minDf {σ : L2.St} {H : Hp} {S : AS} {K : PySem.W.Frag} {tl tz : TE} {ns : List Int} {m : Int} (hl : DE tl σ H S (.lst (ns.map Dt.int))) (hz : DE tz σ H S (.int m)) : DE (tCKw (rMinDf K) (tCons tl tNil) (tCons tz tNil)) σ H S (.int (if ns = [] then m else minL ns)) := fun H1 S1 Q y q =>
  hl H1 S1 _ y fun v H2 k o => (hz.lift (y.then k)).go (Lv.same k y.live) fun u H3 k3 o3 => by
    obtain ⟨a, ys, rfl, ea, na, oa⟩ := (o.same k3).lst_inv
    have e := oa.ints
    subst e
    have eu := o3.int_inv
    subst eu
    refine ⟨a, ns, _, rfl, rfl, SqL.of ea, fun e => ?_, fun e => ?_⟩
    · have h := q (.int m) _ (k.trans k3); rw [if_pos e] at h; exact h (.int _)
    · have h := q (.int (minL ns)) _ (k.trans k3); rw [if_neg e] at h; exact h (.int _)
end Lc

namespace Lc
open PySem PySem.Spec PyProof.Rows L2 RZ PySem.W
section
variable {σ : L2.St} {H : Hp} {S : AS} {K : PySem.W.Frag}
/-! ### stars in a display -/
theorem D_starL {te : TE} {t : TA} {ds es : List Dt} (h : DE te σ H S (.lst ds)) (ht : DA t σ H S es) : DA (StX.tStar K te t) σ H S (ds ++ es) := fun H1 S1 Q x q =>
  h H1 S1 _ x fun v H2 k o => by
    obtain ⟨a, xs, rfl, ea, na, oa⟩ := o.lst_inv
    exact ⟨a, xs, rfl, .inr (SqL.of ea), ht H2 S1 _ (x.then k) fun vs H3 k3 o3 => q _ _ (k.trans k3) ((oa.same k3).append o3)⟩
theorem D_starT {te : TE} {t : TA} {z : Bool} {ds es : List Dt} (h : DE te σ H S (.tup z ds)) (ht : DA t σ H S es) : DA (StX.tStar K te t) σ H S (ds ++ es) := fun H1 S1 Q x q =>
  h H1 S1 _ x fun v H2 k o => by
    obtain ⟨a, xs, rfl, ea, na, oa⟩ := o.tup_inv
    exact ⟨a, xs, rfl, .inl ea.sq, ht H2 S1 _ (x.then k) fun vs H3 k3 o3 => q _ _ (k.trans k3) ((oa.same k3).append o3)⟩
/-! ### [e for x in a range held] -/
theorem D_lcRV {g : TG} {tt : TT} {te : TE} {vs : List Nat} {j n : Nat} {p : Addr} {r : Dt → Option Dt} (hj : σ[j]? = some (some (.ref p))) (hp : H p = some (.rng 0 (n : Nat))) (hz : n ≤ 999999) (hs : ∀ (i : Nat) H1 S1, i < n → Lift H S H1 S1 → Turn1 g tt te vs σ (.int (i : Nat)) H1 S1 (r (.int (i : Nat)))) : DE (tLc (iRngV (tVar j)) g tt te vs) σ H S (.lst ((upto n).filterMap r)) := fun H1 S1 Q x q => by
    have L2 := x.live
    refine ⟨_, hj, p, 0, (n : Nat), rfl, x.same _ _ hp, ⟨by omega, by omega, by omega, by omega⟩, fun D hD => ?_⟩
    have et : (((n : Nat) : Int) - 0).toNat = n := by omega
    rw [et]
    refine lc_range (lo := 0) (n := n) (fun i H' => Made H1 S1 D (((upto n).take i).filterMap r) H') (Made.nil hD) ?_ ?_
    · intro i H' hi m
      have lf := m.lift L2 hD
      rw [Int.zero_add]
      have hd := upto_get hi
      refine hs i H' _ hi (x.trans lf) _ _ (fun z e H4 er k4 o4 => ?_) fun H4 er k4 => ?_
      · obtain ⟨acc, e1, e2, m2⟩ := m.step hD k4 o4 (fm_len _ r i (by rw [upto_len]; exact hz))
        refine ⟨acc, e1, e2, ?_⟩
        rw [fm_succ hd, er]; exact m2
      · rw [fm_succ hd, er]
        show Made _ _ _ (_ ++ []) _
        rw [List.append_nil]
        obtain ⟨vs, e, oc⟩ := m.acc
        exact ⟨m.same.trans k4, vs, k4 _ _ e, oc.same k4⟩
    · intro H' m
      have e2 : (upto n).take n = upto n := List.take_of_length_le (by rw [upto_len]; exact Nat.le_refl _)
      rw [e2] at m
      exact q _ _ m.same (m.done L2 hD)
/-! ### fields -/
inductive Fds (H : Hp) (S : AS) : List (Str × V) → List (Str × Dt) → Prop where
  | nil : Fds H S [] []
  | cons {f : Str} {v : V} {d : Dt} {fs : List (Str × V)} {ds : List (Str × Dt)} (h : Oc H S v d) (t : Fds H S fs ds) : Fds H S ((f, v) :: fs) ((f, d) :: ds)
theorem Fds.get {fs : List (Str × V)} {ds : List (Str × Dt)} {f : Str} {d : Dt} (h : Fds H S fs ds) (e : ds.lookup f = some d) : ∃ v, fs.lookup f = some v ∧ Oc H S v d := by
  induction h with
  | nil => cases e
  | @cons g v d' fs ds o t ih =>
    rw [List.lookup_cons] at e ⊢
    cases c : f == g with
    | true => rw [c] at e; cases e; exact ⟨v, rfl, o⟩
    | false => rw [c] at e; exact ih e
theorem Fds.map {H' : Hp} {S' : AS} {fs : List (Str × V)} {ds : List (Str × Dt)} (k : ∀ v d, Oc H S v d → Oc H' S' v d) (h : Fds H S fs ds) : Fds H' S' fs ds := by
  induction h with
  | nil => exact .nil
  | cons o t ih => exact .cons (k _ _ o) ih
theorem Fds.snoc {fs : List (Str × V)} {ds : List (Str × Dt)} {f : Str} {v : V} {d : Dt} (h : Fds H S fs ds) (o : Oc H S v d) : Fds H S (fs ++ [(f, v)]) (ds ++ [(f, d)]) := by
  induction h with
  | nil => exact .cons o .nil
  | cons o' t ih => exact .cons o' ih
theorem Fds.len {fs : List (Str × V)} {ds : List (Str × Dt)} (h : Fds H S fs ds) : fs.length = ds.length := by
  induction h with
  | nil => rfl
  | cons _ _ ih => rw [List.length_cons, List.length_cons, ih]
theorem Fds.new {fs : List (Str × V)} {ds : List (Str × Dt)} {f : Str} {y : V} (h : Fds H S fs ds) (e : ds.lookup f = none) : putF f y fs = fs ++ [(f, y)] := by
  induction h with
  | nil => rfl
  | @cons g v d' fs ds o t ih =>
    rw [List.lookup_cons] at e
    have ne : (f == g) = false := by
      cases c : f == g with
      | true => rw [c] at e; cases e
      | false => rfl
    rw [ne] at e
    have ng : ¬ g = f := fun z => by subst z; simp at ne
    show (if g = f then _ else (g, v) :: putF f y fs) = _
    rw [if_neg ng, ih e]; rfl
/-! ### instances -/
def InsAt (H : Hp) (S : AS) (C : Addr) (v : V) (ds : List (Str × Dt)) : Prop := ∃ p dx fs, v = .ref p ∧ H p = some (.ins C dx fs) ∧ ¬ S p ∧ Fds H S fs ds
theorem InsAt.but {H' : Hp} {C : Addr} {v : V} {ds : List (Str × Dt)} (b : ButS S H H') (h : InsAt H S C v ds) : InsAt H' S C v ds := by
  obtain ⟨p, dx, fs, rfl, e, n, f⟩ := h
  exact ⟨p, dx, fs, rfl, b _ _ n e, n, f.map fun _ _ o => o.but b⟩
theorem InsAt.same {H' : Hp} {C : Addr} {v : V} {ds : List (Str × Dt)} (k : Same H H') (h : InsAt H S C v ds) : InsAt H' S C v ds := h.but (Same.butS k)
theorem InsAt.sub {S' : AS} {C : Addr} {v : V} {ds : List (Str × Dt)} (k : ∀ a, S' a → S a) (h : InsAt H S C v ds) : InsAt H S' C v ds := by
  obtain ⟨p, dx, fs, rfl, e, n, f⟩ := h
  exact ⟨p, dx, fs, rfl, e, fun z => n (k _ z), f.map fun _ _ o => o.sub k⟩
inductive Inss (H : Hp) (S : AS) (C : Addr) : List V → List (List (Str × Dt)) → Prop where
  | nil : Inss H S C [] []
  | cons {v : V} {d : List (Str × Dt)} {vs : List V} {ds : List (List (Str × Dt))} (h : InsAt H S C v d) (t : Inss H S C vs ds) : Inss H S C (v :: vs) (d :: ds)
theorem Inss.map {H' : Hp} {S' : AS} {C : Addr} {vs : List V} {ds : List (List (Str × Dt))} (k : ∀ v d, InsAt H S C v d → InsAt H' S' C v d) (h : Inss H S C vs ds) : Inss H' S' C vs ds := by
  induction h with
  | nil => exact .nil
  | cons o t ih => exact .cons (k _ _ o) ih
theorem Inss.snoc {C : Addr} {vs : List V} {ds : List (List (Str × Dt))} {v : V} {d : List (Str × Dt)} (h : Inss H S C vs ds) (o : InsAt H S C v d) : Inss H S C (vs ++ [v]) (ds ++ [d]) := by
  induction h with
  | nil => exact .cons o .nil
  | cons o' t ih => exact .cons o' ih
theorem Inss.len {C : Addr} {vs : List V} {ds : List (List (Str × Dt))} (h : Inss H S C vs ds) : vs.length = ds.length := by
  induction h with
  | nil => rfl
  | cons _ _ ih => rw [List.length_cons, List.length_cons, ih]
theorem Inss.at {C : Addr} {vs : List V} {ds : List (List (Str × Dt))} (h : Inss H S C vs ds) : ∀ {i : Nat} {d : List (Str × Dt)}, ds[i]? = some d → ∃ v, vs[i]? = some v ∧ InsAt H S C v d := by
  induction h with
  | nil => intro i d e; simp at e
  | cons o t ih =>
    intro i d e
    cases i with
    | zero =>
      have e := Option.some.inj (show some _ = some _ from e)
      subst e; exact ⟨_, rfl, o⟩
    | succ i => exact ih (i := i) (by simpa using e)
/-- a list of instances -/
def InssAt (H : Hp) (S : AS) (C : Addr) (v : V) (ds : List (List (Str × Dt))) : Prop := ∃ p vs, v = .ref p ∧ H p = some (.lst vs) ∧ ¬ S p ∧ Inss H S C vs ds
theorem InssAt.but {H' : Hp} {C : Addr} {v : V} {ds : List (List (Str × Dt))} (b : ButS S H H') (h : InssAt H S C v ds) : InssAt H' S C v ds := by
  obtain ⟨p, vs, rfl, e, n, f⟩ := h
  exact ⟨p, vs, rfl, b _ _ n e, n, f.map fun _ _ o => o.but b⟩
theorem InssAt.sub {S' : AS} {C : Addr} {v : V} {ds : List (List (Str × Dt))} (k : ∀ a, S' a → S a) (h : InssAt H S C v ds) : InssAt H S' C v ds := by
  obtain ⟨p, vs, rfl, e, n, f⟩ := h
  exact ⟨p, vs, rfl, e, fun z => n (k _ z), f.map fun _ _ o => o.sub k⟩
/-! ### reading a field -/
theorem D_fld {i : Nat} {p C dx : Addr} {fs : List (Str × V)} {f : Str} {v : V} {d : Dt} (hj : σ[i]? = some (some (.ref p))) (hp : H p = some (.ins C dx fs)) (c : Cls K C) (n : NoAttr K C f) (hl : fs.lookup f = some v) (o : Oc H S v d) : DE (tFld K (tVar i) f) σ H S d := fun H1 S1 Q x q =>
  ⟨_, hj, p, C, dx, fs, v, rfl, x.same _ _ hp, c, n, hl, q _ _ (fun _ _ z => z) (x.ob o)⟩
/-! ### what an __init__ has made so far -/
structure Ini (H0 : Hp) (S : AS) (x C dx : Addr) (ds : List (Str × Dt)) (H : Hp) : Prop where
  at_ : ∃ fs, H x = some (.ins C dx fs) ∧ Fds H S fs ds
  but : ∀ b o, b ≠ x → H0 b = some o → H b = some o
  lv : Lv H S
theorem Ini.ob {H0 : Hp} {x C dx : Addr} {ds : List (Str × Dt)} {v : V} {d : Dt} (I : Ini H0 S x C dx ds H) (sx : S x) (o : Oc H0 S v d) : Oc H S v d := o.but fun b u n e => I.but b u (fun z => n (z ▸ sx)) e
theorem Ini.step {H0 H2 : Hp} {x C dx : Addr} {ds : List (Str × Dt)} {fs : List (Str × V)} {f : Str} {y : V} {d : Dt} (I : Ini H0 S x C dx ds H) (sx : S x) (e : H x = some (.ins C dx fs)) (F : Fds H S fs ds) (k : Same H H2) (o : Oc H2 S y d) : Ini H0 S x C dx (ds ++ [(f, d)]) (upd H2 x (.ins C dx (fs ++ [(f, y)]))) := by
  refine ⟨⟨_, upd_same, (F.map fun v d o => (o.same k).put sx).snoc (o.put sx)⟩, fun b u nb hb => ?_, fun a ha z => ?_⟩
  · rw [upd_ne nb]; exact k _ _ (I.but b u nb hb)
  · by_cases c : a = x
    · subst c; rw [upd_same] at z; cases z
    · rw [upd_ne c] at z; exact Lv.same k I.lv a ha z
theorem Ini.same {H0 H2 : Hp} {x C dx : Addr} {ds : List (Str × Dt)} (I : Ini H0 S x C dx ds H) (k : Same H H2) : Ini H0 S x C dx ds H2 := by
  obtain ⟨fs, e, F⟩ := I.at_
  exact ⟨⟨fs, k _ _ e, F.map fun _ _ o => o.same k⟩, fun b u nb hb => k _ _ (I.but b u nb hb), Lv.same k I.lv⟩
theorem D_self {H0 : Hp} {x C dx : Addr} {ds : List (Str × Dt)} {f : Str} {d : Dt} (I : Ini H0 S x C dx ds H) (hj : σ[0]? = some (some (.ref x))) (c : Cls K C) (n : NoAttr K C f) (e : ds.lookup f = some d) : DE (tFld K (tVar 0) f) σ H S d := by
  obtain ⟨fs, h, F⟩ := I.at_
  obtain ⟨v, hl, o⟩ := F.get e
  exact D_fld hj h c n hl o
theorem S_fld {H0 : Hp} {x C dx : Addr} {ds : List (Str × Dt)} {f : Str} {d : Dt} {tv : TE} {u : TS} {D : Ends} (I : Ini H0 S x C dx ds H) (sx : S x) (hj : σ[0]? = some (some (.ref x))) (h : DE tv σ H S d) (c : Cls K C) (n : NoAttr K C f) (e : ds.lookup f = none) (hl : ds.length < 900)
    (k : ∀ H3, Ini H0 S x C dx (ds ++ [(f, d)]) H3 → u D σ H3) : tSeq (sFld K (tVar 0) tv f) u D σ H := by
  refine h.go I.lv fun y H2 k2 o => ?_
  obtain ⟨fs, hx, F⟩ := I.at_
  refine ⟨_, hj, x, C, dx, fs, rfl, k2 _ _ hx, c, n, by rw [F.len]; omega, ?_⟩
  rw [F.new e]
  exact k _ (I.step sx hx F k2 o)
theorem S_fld1 {H0 : Hp} {x C dx : Addr} {ds : List (Str × Dt)} {f : Str} {d : Dt} {tv : TE} {D : Ends} (I : Ini H0 S x C dx ds H) (sx : S x) (hj : σ[0]? = some (some (.ref x))) (h : DE tv σ H S d) (c : Cls K C) (n : NoAttr K C f) (e : ds.lookup f = none) (hl : ds.length < 900)
    (k : ∀ H3, Ini H0 S x C dx (ds ++ [(f, d)]) H3 → D.nx σ H3) : sFld K (tVar 0) tv f D σ H := by
  refine h.go I.lv fun y H2 k2 o => ?_
  obtain ⟨fs, hx, F⟩ := I.at_
  refine ⟨_, hj, x, C, dx, fs, rfl, k2 _ _ hx, c, n, by rw [F.len]; omega, ?_⟩
  rw [F.new e]
  exact k _ (I.step sx hx F k2 o)
/-- an __init__ that puts data of its arguments into the fields -/
def spInit (C : Addr) (ok : List Dt → Prop) (f : List Dt → List (Str × Dt)) : Sp := fun vs H Q _ => ∃ (x dx : Addr) (S : AS) (us : List V) (ds : List Dt), vs = .ref x :: us ∧ H x = some (.ins C dx []) ∧ S x ∧ Lv H S ∧ Ocs H S us ds ∧ ok ds ∧ ∀ H', Ini H S x C dx (f ds) H' → Q .non H'
theorem make_ins {C : Addr} {ok : List Dt → Prop} {f : List Dt → List (Str × Dt)} {E : XK} {t : TA} {ds : List Dt} (ha : DA t σ H S ds) (ho : ok ds) {H1 : Hp} {S1 : AS} {Q : VK} (x : Lift H S H1 S1) (q : ∀ v H2, Same H1 H2 → InsAt H2 S1 C v (f ds) → Q v H2) : tMake C (spInit C ok f) [] E t σ H1 Q := by
  refine ha H1 S1 _ x fun vs H2 k o => ?_
  intro a dx na nd ne
  have hd := same_upd (o := .own a) nd
  have ea : upd H2 dx (.own a) a = none := by rw [upd_ne (Ne.symm ne)]; exact na
  have lv2 := Lv.same hd (Lv.same k x.live)
  have o2 := ((o.same hd).add ea).put (D := a) (o := .ins C dx []) (.inr rfl)
  refine ⟨a, dx, And1 S1 a, vs, ds, by rw [List.append_nil], upd_same, .inr rfl, lv2.add ea, o2, ho, fun H' I => ⟨rfl, ?_⟩⟩
  obtain ⟨fs, e, F⟩ := I.at_
  refine q _ _ (fun b u hb => ?_) ⟨a, dx, fs, rfl, e, Lv.out lv2 ea, F.map fun _ _ o => o.sub fun _ h => .inl h⟩
  have hb2 := k _ _ hb
  have nb : b ≠ a := fun z => by rw [z, na] at hb2; cases hb2
  refine I.but b u nb ?_
  rw [upd_ne nb]
  exact hd _ _ hb2
/-! ### a list of new instances -/
structure MadeI (H2 : Hp) (S : AS) (C D : Addr) (ds : List (List (Str × Dt))) (H' : Hp) : Prop where
  same : Same H2 H'
  acc : ∃ vs, H' D = some (.lst vs) ∧ Inss H' (And1 S D) C vs ds
theorem lc_ins {C : Addr} {te tn : TE} {j n : Nat} {f : Nat → List (Str × Dt)} (hn : DE tn σ H S (.int (n : Nat))) (hz : n ≤ 999999) (hw : ∀ x : V, wipe ((wipe σ [j]).set j (some x)) [j] = wipe σ [j]) (lv : Lv H S)
    (hs : ∀ (i : Nat) H1 S1 (R : VK), i < n → Lift H S H1 S1 → (∀ v H2, Same H1 H2 → InsAt H2 S1 C v (f i) → R v H2) → te ((wipe σ [j]).set j (some (.int (i : Nat)))) H1 R) {Q : VK} (q : ∀ v H2, Same H H2 → InssAt H2 S C v ((List.range n).map f) → Q v H2) : tLc (iRng1 (tCons tn tNil)) (gName j) tYes te [j] σ H Q := by
  refine hn.go lv fun v H2 k o => ?_
  have e := o.int_inv
  subst e
  have L2 := Lv.same k lv
  have x := (Lift.refl lv).then k
  refine ⟨_, rfl, by omega, by omega, fun D hD => ?_⟩
  have et : ((n : Nat) : Int).toNat = n := Int.toNat_natCast n
  rw [et]
  refine lc_range (lo := 0) (n := n) (fun i H' => MadeI H2 S C D ((List.range i).map f) H') ⟨same_upd hD, [], upd_same, .nil⟩ ?_ ?_
  · intro i H' hi m
    rw [Int.zero_add]
    obtain ⟨vs, ev, oi⟩ := m.acc
    have lf : Lift H2 S H' (And1 S D) := by
      refine ⟨fun h => (h.add hD).same m.same, fun a ha z => ?_, fun a h => .inl h, m.same⟩
      rcases ha with ha | ha
      · exact Lv.same m.same L2 a ha z
      · rw [ha, ev] at z; cases z
    refine ⟨hw _, hs i H' _ _ hi (x.trans lf) fun y H4 k4 o4 => ?_⟩
    refine ⟨vs, k4 _ _ ev, Nat.lt_of_lt_of_le (show _ < 1000000 by rw [oi.len, List.length_map, List.length_range]; omega) (by decide), fun b u hb => ?_, _, upd_same, ?_⟩
    · rw [upd_ne (ne_of_none hb hD)]
      exact k4 _ _ (m.same _ _ hb)
    · rw [List.range_succ, List.map_append]
      have kb : ButS (And1 S D) H4 (upd H4 D (.lst (vs ++ [y]))) := fun b u nb e => by
        rw [upd_ne (fun z => nb (.inr z))]; exact e
      exact ((oi.map fun _ _ o => o.same k4).snoc o4).map fun _ _ o => o.but kb
  · intro H' m
    obtain ⟨vs, ev, oi⟩ := m.acc
    exact q _ _ (k.trans m.same) ⟨D, vs, rfl, ev, Lv.out L2 hD, oi.map fun _ _ o => o.sub fun _ h => .inl h⟩
end
end Lc

namespace Lc
open PySem PySem.Spec PyProof.Rows L2 RZ PySem.W
section
variable {σ : L2.St} {H : Hp} {S : AS} {K : PySem.W.Frag}
theorem D_bl (b : Bool) : DE (tC (.bl b)) σ H S (.bl b) := fun H1 S1 Q x q => q _ _ (fun _ _ z => z) (.bl b)
theorem D_if {tt : TT} {ta tb : TE} {b : Bool} {d : Dt} (ht : DT tt σ H S b) (h1 : b = true → DE ta σ H S d) (h0 : b = false → DE tb σ H S d) : DE (tIf tt ta tb) σ H S d := fun H1 S1 Q x q =>
  ht H1 S1 _ x fun H2 k => by
    cases b with
    | true => exact iteT ((h1 rfl) H2 S1 _ (x.then k) fun v H3 k3 o3 => q _ _ (k.trans k3) o3)
    | false => exact iteF ((h0 rfl) H2 S1 _ (x.then k) fun v H3 k3 o3 => q _ _ (k.trans k3) o3)
theorem T_truL {te : TE} {ds : List Dt} (h : DE te σ H S (.lst ds)) : DT (fun σ H Q => te σ H fun x H' => ∃ k, TruV K x H' k ∧ Q k H') σ H S (!ds.isEmpty) := fun H1 S1 Q x q =>
  h H1 S1 _ x fun v H2 k o => by
    obtain ⟨a, xs, rfl, ea, na, oa⟩ := o.lst_inv
    refine ⟨!xs.isEmpty, ?_, ?_⟩
    · exact .inl ⟨xs, SqL.of ea, rfl⟩
    · have e : xs.isEmpty = ds.isEmpty := by
        have := oa.len
        cases xs <;> cases ds <;> simp_all
      rw [e]; exact q _ k
theorem T_eqS {ta tb : TE} {a b : Str} (ha : DE ta σ H S (.str a)) (hb : DE tb σ H S (.str b)) : DT (tTest (tOp rEq ta tb)) σ H S (decide (a = b)) := fun H1 S1 Q x q =>
  ha H1 S1 _ x fun v H2 k o => (hb.lift (x.then k)).go (Lv.same k x.live) fun u H3 k3 o3 => by
    have e1 := (o.same k3).str_inv
    have e2 := o3.str_inv
    subst e1; subst e2
    refine ⟨rfl, _, rfl, ?_⟩
    have e : (decide (V.str a = V.str b)) = decide (a = b) := by
      by_cases c : a = b
      · subst c; simp
      · rw [decide_eq_false c, decide_eq_false (fun z => c (V.str.inj z))]
    rw [e]; exact q _ (k.trans k3)
theorem D_gt {ta tb : TE} {a b : Int} (ha : DE ta σ H S (.int a)) (hb : DE tb σ H S (.int b)) : DE (tOp (rI0 fun i j => .bl (decide (j < i))) ta tb) σ H S (.bl (decide (b < a))) := fun H1 S1 Q x q =>
  ha H1 S1 _ x fun v H2 k o => (hb.lift (x.then k)).go (Lv.same k x.live) fun u H3 k3 o3 => by
    have e1 := (o.same k3).int_inv
    have e2 := o3.int_inv
    subst e1; subst e2
    exact ⟨_, _, rfl, rfl, q _ _ (k.trans k3) (.bl _)⟩
theorem D_any {tl : TE} {bs : List Bool} (hl : DE tl σ H S (.lst (bs.map Dt.bl))) : DE (tCB (rAny K) (tCons tl tNil)) σ H S (.bl (bs.any id)) := fun H1 S1 Q y q =>
  hl H1 S1 _ y fun v H2 k o => by
    obtain ⟨a, ys, rfl, ea, na, oa⟩ := o.lst_inv
    have e := oa.bls
    subst e
    exact ⟨a, bs, rfl, SqL.of ea, q _ _ k (.bl _)⟩
theorem T_val {te : TE} {b : Bool} (h : DE te σ H S (.bl b)) : DT (tB te) σ H S b := fun H1 S1 Q x q => h H1 S1 _ x fun v H2 k o => by
  rw [o.bl_inv]
  exact ⟨b, rfl, q H2 k⟩
theorem T_not {tt : TT} {b : Bool} (h : DT tt σ H S b) : DT (tNot tt) σ H S (!b) := fun H1 S1 Q x q => h H1 S1 _ x q
/-- the last of a list -/
theorem D_last {ta tb : TE} {ds : List Dt} {d : Dt} (ha : DE ta σ H S (.lst (ds ++ [d]))) : DE (tOp (rIxL K) ta (tUn (rU fun i => .int (-i)) (tC (.int 1)))) σ H S d := fun H1 S1 Q x q =>
  ha H1 S1 _ x fun v H2 k o => by
    obtain ⟨a, xs, rfl, ea, na, oa⟩ := o.lst_inv
    have l := oa.len
    rw [List.length_append, List.length_singleton] at l
    have e : xs = xs.dropLast ++ [xs.getLast (by intro z; subst z; simp at l)] := (List.dropLast_concat_getLast _).symm
    generalize xs.getLast (by intro z; subst z; simp at l) = y at e
    generalize xs.dropLast = ys at e
    subst e
    obtain ⟨d', e1, o1⟩ := oa.get (i := ys.length) (x := y) (by rw [List.getElem?_append_right (Nat.le_refl _), Nat.sub_self]; rfl)
    rw [List.length_append, List.length_singleton] at l
    have l2 : ys.length = ds.length := by omega
    rw [l2, List.getElem?_append_right (Nat.le_refl _), Nat.sub_self] at e1
    have e3 := Option.some.inj (show some d = some d' from e1)
    subst e3
    exact ⟨_, rfl, a, _, _, y, rfl, rfl, SqL.of ea, atI_last ys y, q _ _ k o1⟩
/-! ### slices of tuples without a dict -/
theorem ocs_take {vs : List V} {ds : List Dt} (n : Nat) (h : Ocs H S vs ds) : Ocs H S (vs.take n) (ds.take n) := by
  induction n generalizing vs ds with
  | zero => rw [List.take_zero, List.take_zero]; exact .nil
  | succ n ih =>
    cases h with
    | nil => exact .nil
    | cons h t => exact .cons h (ih t)
theorem ocs_drop {vs : List V} {ds : List Dt} (n : Nat) (h : Ocs H S vs ds) : Ocs H S (vs.drop n) (ds.drop n) := by
  induction n generalizing vs ds with
  | zero => exact h
  | succ n ih =>
    cases h with
    | nil => exact .nil
    | cons h t => exact ih t
def sub3 (ds : List Dt) (lo : Nat) (hi : Option Nat) : List Dt := match hi with
  | none => ds.drop lo
  | some k => (ds.drop lo).take (k - lo)
def hiN (n : Nat) : Option Nat → Nat
  | none => n
  | some k => min k n
theorem slF_go {v : V} {ds : List Dt} {lo : Nat} {hi : Option Nat} {l : Option Int} {Q : VK} (hl : l = none ∧ lo = 0 ∨ l = some (lo : Int)) (o : Oc H S v (.tup true ds)) (lv : Lv H S) (q : ∀ u H2, Same H H2 → Oc H2 S u (.tup true (sub3 ds lo hi)) → Q u H2) : rSlF K v l (hi.map fun k => ((k : Nat) : Int)) H Q := by
  obtain ⟨a, xs, rfl, ea, na, oa⟩ := o.tup_inv
  have n1 := oa.len
  have e1 : HT.sIx xs.length 0 l = min lo xs.length := by
    rcases hl with ⟨rfl, rfl⟩ | rfl
    · rw [HT.sIx_none]; omega
    · exact HT.sIx_nat _ _ _
  have e2 : HT.sIx xs.length xs.length (hi.map fun k => ((k : Nat) : Int)) = hiN xs.length hi := by
    cases hi with
    | none => rfl
    | some k => exact HT.sIx_nat _ _ _
  have oc : Ocs H S (cutV xs l (hi.map fun k => ((k : Nat) : Int))) (sub3 ds lo hi) := by
    have h0 := ocs_take (hiN xs.length hi - min lo xs.length) (ocs_drop (min lo xs.length) oa)
    have e3 : cutV xs l (hi.map fun k => ((k : Nat) : Int)) = (xs.drop (min lo xs.length)).take (hiN xs.length hi - min lo xs.length) := by
      unfold cutV
      rw [e1, e2]
    have e4 : (ds.drop (min lo xs.length)).take (hiN xs.length hi - min lo xs.length) = sub3 ds lo hi := by
      rw [n1]
      have d1 : ds.drop (min lo ds.length) = ds.drop lo := by
        by_cases c : lo ≤ ds.length
        · rw [Nat.min_eq_left c]
        · rw [Nat.min_eq_right (by omega), List.drop_length, List.drop_eq_nil_of_le (by omega)]
      rw [d1]
      cases hi with
      | none => exact List.take_of_length_le (by rw [List.length_drop]; show ds.length - lo ≤ ds.length - min lo ds.length; omega)
      | some k =>
        show (ds.drop lo).take (min k ds.length - min lo ds.length) = (ds.drop lo).take (k - lo)
        by_cases c : k ≤ ds.length
        · by_cases c2 : lo ≤ ds.length
          · rw [Nat.min_eq_left c, Nat.min_eq_left c2]
          · rw [List.drop_eq_nil_of_le (by omega), List.take_nil, List.take_nil]
        · rw [List.take_of_length_le (by rw [List.length_drop]; omega), List.take_of_length_le (by rw [List.length_drop]; omega)]
    rw [e3, ← e4]; exact h0
  refine ⟨a, xs, rfl, ea.sq, fun w => ?_, fun w p H2 hp k tp => ?_⟩
  · refine q _ _ (fun _ _ z => z) (.tup ea na ?_)
    have e5 : cutV xs l (hi.map fun k => ((k : Nat) : Int)) = xs := by
      unfold cutV
      rw [w.1, w.2, List.drop_zero, Nat.sub_zero, List.take_length]
    rw [e5] at oc; exact oc
  · exact q _ _ k (.tup tp (Lv.out lv hp) (oc.same k))
theorem D_slTo {ts th : TE} {ds : List Dt} {k : Nat} (h : DE ts σ H S (.tup true ds)) (hh : DE th σ H S (.int (k : Nat))) : DE (tSl (rSlF K) ts tNoPart (tPart th)) σ H S (.tup true (ds.take k)) := fun H1 S1 Q x q =>
  h H1 S1 _ x fun v H2 k2 o => (hh.lift (x.then k2)).go (Lv.same k2 x.live) fun u H3 k3 o3 => by
    have e := o3.int_inv
    subst e
    refine ⟨_, rfl, slF_go (lo := 0) (hi := some k) (.inl ⟨rfl, rfl⟩) (o.same k3) (Lv.same k3 (Lv.same k2 x.live)) fun u H4 k4 o4 => q _ _ ((k2.trans k3).trans k4) ?_⟩
    rw [show ds.take k = sub3 ds 0 (some k) from rfl]; exact o4
theorem D_slFrom {ts tl : TE} {ds : List Dt} {k : Nat} (h : DE ts σ H S (.tup true ds)) (hl : DE tl σ H S (.int (k : Nat))) : DE (tSl (rSlF K) ts (tPart tl) tNoPart) σ H S (.tup true (ds.drop k)) := fun H1 S1 Q x q =>
  h H1 S1 _ x fun v H2 k2 o => (hl.lift (x.then k2)).go (Lv.same k2 x.live) fun u H3 k3 o3 => by
    have e := o3.int_inv
    subst e
    exact ⟨_, rfl, slF_go (lo := k) (hi := none) (.inr rfl) (o.same k3) (Lv.same k3 (Lv.same k2 x.live)) fun u H4 k4 o4 => q _ _ ((k2.trans k3).trans k4) o4⟩
theorem D_slMid {ts tl th : TE} {ds : List Dt} {k m : Nat} (h : DE ts σ H S (.tup true ds)) (hl : DE tl σ H S (.int (k : Nat))) (hh : DE th σ H S (.int (m : Nat))) : DE (tSl (rSlF K) ts (tPart tl) (tPart th)) σ H S (.tup true ((ds.drop k).take (m - k))) := fun H1 S1 Q x q =>
  h H1 S1 _ x fun v H2 k2 o => (hl.lift (x.then k2)).go (Lv.same k2 x.live) fun u H3 k3 o3 => by
    have e := o3.int_inv
    subst e
    refine ⟨_, rfl, (hh.lift ((x.then k2).then k3)).go (Lv.same k3 (Lv.same k2 x.live)) fun u H4 k4 o4 => ?_⟩
    have e := o4.int_inv
    subst e
    exact ⟨_, rfl, slF_go (lo := k) (hi := some m) (.inr rfl) ((o.same k3).same k4) (Lv.same k4 (Lv.same k3 (Lv.same k2 x.live))) fun u H5 k5 o5 => q _ _ (((k2.trans k3).trans k4).trans k5) o5⟩
/-- t.count(a text) of a tuple of texts without a dict -/
theorem D_count {to : TE} {ws : List Str} {k : Str} (h : DE to σ H S (.tup true (ws.map Dt.str))) : DE (tBMF (rTCnt K) to (tCons (tC (.str k)) tNil)) σ H S (.int ((ws.countP fun y => decide (y = k) : Nat))) := fun H1 S1 Q x q =>
  h H1 S1 _ x fun v H2 k2 o => by
    obtain ⟨a, xs, rfl, ea, na, oa⟩ := o.tup_inv
    have e := oa.strs
    subst e
    exact ⟨⟨a, _, rfl, ea⟩, a, ws, k, rfl, rfl, ea.sq, q _ _ k2 (.int _)⟩
end
end Lc

namespace Lc
open PySem PySem.Spec PyProof.Rows L2 RZ PySem.W
/-! ### what the slots hold, no heap in sight -/
/-- a slot: nothing known, a datum, a list of its own that may change, just that value -/
inductive Sl where | no | d (d : Dt) | o (ds : List Dt) | v (v : V)
abbrev Rho := List Sl
structure En (H : Hp) (S : AS) (σ : L2.St) (ρ : Rho) : Prop where
  len : σ.length = ρ.length
  lv : Lv H S
  dat : ∀ {i : Nat} {d : Dt}, ρ[i]? = some (.d d) → ∃ v, σ[i]? = some (some v) ∧ Oc H S v d
  own : ∀ {i : Nat} {ds : List Dt}, ρ[i]? = some (.o ds) → ∃ a vs, σ[i]? = some (some (.ref a)) ∧ S a ∧ H a = some (.lst vs) ∧ Ocs H S vs ds
  val : ∀ {i : Nat} {u : V}, ρ[i]? = some (.v u) → σ[i]? = some (some u)
  inj : ∀ {i j : Nat} {ds es : List Dt} {a : Addr}, ρ[i]? = some (.o ds) → ρ[j]? = some (.o es) → σ[i]? = some (some (.ref a)) → σ[j]? = some (some (.ref a)) → i = j
/-- data stay data -/
structure Mv (H : Hp) (S : AS) (H' : Hp) (S' : AS) : Prop where
  ob : ∀ {u : V} {e : Dt}, Oc H S u e → Oc H' S' u e
  lv : Lv H' S'
theorem Mv.refl {H : Hp} {S : AS} (l : Lv H S) : Mv H S H S := ⟨fun h => h, l⟩
theorem Mv.trans {H H1 H2 : Hp} {S S1 S2 : AS} (x : Mv H S H1 S1) (y : Mv H1 S1 H2 S2) : Mv H S H2 S2 := ⟨fun h => y.ob (x.ob h), y.lv⟩
theorem Lift.mv {H H' : Hp} {S S' : AS} (x : Lift H S H' S') : Mv H S H' S' := ⟨fun h => x.ob h, x.live⟩
theorem Mv.same {H H' : Hp} {S : AS} (l : Lv H S) (k : Same H H') : Mv H S H' S := ⟨fun h => h.same k, Lv.same k l⟩
theorem Mv.obs {H H1 : Hp} {S S1 : AS} (x : Mv H S H1 S1) : ∀ {us : List V} {es : List Dt}, Ocs H S us es → Ocs H1 S1 us es
  | _, _, .nil => .nil
  | _, _, .cons h t => .cons (x.ob h) (Mv.obs x t)
section
variable {H H' : Hp} {S S' : AS} {σ : L2.St} {ρ : Rho} {K : PySem.W.Frag}
theorem En.lift (e : En H S σ ρ) (x : Lift H S H' S') : En H' S' σ ρ where
  len := e.len
  lv := x.live
  dat h := let ⟨v, hv, o⟩ := e.dat h; ⟨v, hv, x.ob o⟩
  own h := let ⟨a, vs, hv, sa, ha, o⟩ := e.own h; ⟨a, vs, hv, x.sub _ sa, x.same _ _ ha, x.obs o⟩
  val := e.val
  inj := e.inj
theorem En.same (e : En H S σ ρ) (k : Same H H') : En H' S σ ρ := e.lift ((Lift.refl e.lv).then k)
theorem sl_set {α : Type} {l : List α} {i j : Nat} {x y : α} (h : (l.set i x)[j]? = some y) : (i = j ∧ x = y) ∨ (i ≠ j ∧ l[j]? = some y) := by
  by_cases e : i = j
  · subst e
    by_cases hl : i < l.length
    · rw [List.getElem?_set_self hl] at h; exact .inl ⟨rfl, Option.some.inj h⟩
    · rw [List.getElem?_eq_none (by rw [List.length_set]; omega)] at h; cases h
  · rw [List.getElem?_set_ne e] at h; exact .inr ⟨e, h⟩
theorem En.set {i : Nat} {v : V} {d : Dt} (e : En H S σ ρ) (o : Oc H S v d) : En H S (σ.set i (some v)) (ρ.set i (.d d)) where
  len := by rw [List.length_set, List.length_set]; exact e.len
  lv := e.lv
  dat {j d'} h := by
    rcases sl_set h with ⟨rfl, z⟩ | ⟨ne, h⟩
    · cases z
      have hl : i < ρ.length := by
        have := (List.getElem?_eq_some_iff.mp h).1; rwa [List.length_set] at this
      exact ⟨v, List.getElem?_set_self (by rw [e.len]; exact hl), o⟩
    · obtain ⟨u, hu, ou⟩ := e.dat h
      exact ⟨u, by rw [List.getElem?_set_ne ne]; exact hu, ou⟩
  own {j ds} h := by
    rcases sl_set h with ⟨rfl, z⟩ | ⟨ne, h⟩
    · cases z
    · obtain ⟨a, vs, hu, x⟩ := e.own h
      exact ⟨a, vs, by rw [List.getElem?_set_ne ne]; exact hu, x⟩
  val {j u} h := by
    rcases sl_set h with ⟨rfl, z⟩ | ⟨ne, h⟩
    · cases z
    · rw [List.getElem?_set_ne ne]; exact e.val h
  inj {j k ds es a} h1 h2 g1 g2 := by
    rcases sl_set h1 with ⟨rfl, z⟩ | ⟨n1, h1⟩
    · cases z
    rcases sl_set h2 with ⟨rfl, z⟩ | ⟨n2, h2⟩
    · cases z
    rw [List.getElem?_set_ne n1] at g1
    rw [List.getElem?_set_ne n2] at g2
    exact e.inj h1 h2 g1 g2
theorem En.clr {i : Nat} {v : Option V} (e : En H S σ ρ) : En H S (σ.set i v) (ρ.set i .no) where
  len := by rw [List.length_set, List.length_set]; exact e.len
  lv := e.lv
  dat {j d'} h := by
    rcases sl_set h with ⟨rfl, z⟩ | ⟨ne, h⟩
    · cases z
    · obtain ⟨u, hu, ou⟩ := e.dat h
      exact ⟨u, by rw [List.getElem?_set_ne ne]; exact hu, ou⟩
  own {j ds} h := by
    rcases sl_set h with ⟨rfl, z⟩ | ⟨ne, h⟩
    · cases z
    · obtain ⟨a, vs, hu, x⟩ := e.own h
      exact ⟨a, vs, by rw [List.getElem?_set_ne ne]; exact hu, x⟩
  val {j u} h := by
    rcases sl_set h with ⟨rfl, z⟩ | ⟨ne, h⟩
    · cases z
    · rw [List.getElem?_set_ne ne]; exact e.val h
  inj {j k ds es a} h1 h2 g1 g2 := by
    rcases sl_set h1 with ⟨rfl, z⟩ | ⟨n1, h1⟩
    · cases z
    rcases sl_set h2 with ⟨rfl, z⟩ | ⟨n2, h2⟩
    · cases z
    rw [List.getElem?_set_ne n1] at g1
    rw [List.getElem?_set_ne n2] at g2
    exact e.inj h1 h2 g1 g2
/-- a new list of its own -/
theorem En.setO {i : Nat} {a : Addr} {vs : List V} {ds : List Dt} (e : En H S σ ρ) (k : Same H H') (na : H a = none) (ha : H' a = some (.lst vs)) (oc : Ocs H' (And1 S a) vs ds) : En H' (And1 S a) (σ.set i (some (.ref a))) (ρ.set i (.o ds)) where
  len := by rw [List.length_set, List.length_set]; exact e.len
  lv := fun b hb => by
    rcases hb with hb | rfl
    · exact Lv.same k e.lv b hb
    · rw [ha]; exact fun z => nomatch z
  dat {j d'} h := by
    rcases sl_set h with ⟨rfl, z⟩ | ⟨ne, h⟩
    · cases z
    · obtain ⟨u, hu, ou⟩ := e.dat h
      exact ⟨u, by rw [List.getElem?_set_ne ne]; exact hu, (ou.add na).same k⟩
  own {j ds'} h := by
    rcases sl_set h with ⟨rfl, z⟩ | ⟨ne, h⟩
    · cases z
      have hl : i < ρ.length := by
        have := (List.getElem?_eq_some_iff.mp h).1; rwa [List.length_set] at this
      exact ⟨a, vs, List.getElem?_set_self (by rw [e.len]; exact hl), .inr rfl, ha, oc⟩
    · obtain ⟨b, ws, hu, sb, hb, ob⟩ := e.own h
      exact ⟨b, ws, by rw [List.getElem?_set_ne ne]; exact hu, .inl sb, k _ _ hb, (ob.add na).same k⟩
  val {j u} h := by
    rcases sl_set h with ⟨rfl, z⟩ | ⟨ne, h⟩
    · cases z
    · rw [List.getElem?_set_ne ne]; exact e.val h
  inj {j k' ds' es b} h1 h2 g1 g2 := by
    rcases sl_set h1 with ⟨rfl, z⟩ | ⟨n1, h1⟩ <;> rcases sl_set h2 with ⟨rfl, z2⟩ | ⟨n2, h2⟩
    · rfl
    · have hl : i < σ.length := by
        have := (List.getElem?_eq_some_iff.mp g1).1; rwa [List.length_set] at this
      rw [List.getElem?_set_self hl] at g1
      rw [List.getElem?_set_ne n2] at g2
      cases g1
      obtain ⟨c, ws, hc, _, hb, _⟩ := e.own h2
      rw [g2] at hc; cases hc
      rw [na] at hb; cases hb
    · have hl : i < σ.length := by
        have := (List.getElem?_eq_some_iff.mp g2).1; rwa [List.length_set] at this
      rw [List.getElem?_set_self hl] at g2
      rw [List.getElem?_set_ne n1] at g1
      cases g2
      obtain ⟨c, ws, hc, _, hb, _⟩ := e.own h1
      rw [g1] at hc; cases hc
      rw [na] at hb; cases hb
    · rw [List.getElem?_set_ne n1] at g1
      rw [List.getElem?_set_ne n2] at g2
      exact e.inj h1 h2 g1 g2
/-- a list of its own changes -/
theorem En.put {i : Nat} {a : Addr} {ws : List V} {ds es : List Dt} (e : En H S σ ρ) (hi : ρ[i]? = some (.o ds)) (ha : σ[i]? = some (some (.ref a))) (oc : Ocs H S ws es) : En (upd H a (.lst ws)) S σ (ρ.set i (.o es)) where
  len := by rw [List.length_set]; exact e.len
  lv := fun b hb z => by
    by_cases c : b = a
    · subst c; rw [upd_same] at z; cases z
    · rw [upd_ne c] at z; exact e.lv b hb z
  dat {j d'} h := by
    rcases sl_set h with ⟨rfl, z⟩ | ⟨ne, h⟩
    · cases z
    · obtain ⟨u, hu, ou⟩ := e.dat h
      obtain ⟨b, _, hb, sb, _⟩ := e.own hi
      rw [ha] at hb; cases hb
      exact ⟨u, hu, ou.put sb⟩
  own {j ds'} h := by
    obtain ⟨b, _, hb, sb, _⟩ := e.own hi
    rw [ha] at hb; cases hb
    rcases sl_set h with ⟨rfl, z⟩ | ⟨ne, h⟩
    · cases z
      exact ⟨a, ws, ha, sb, upd_same, oc.put sb⟩
    · obtain ⟨c, us, hu, sc, hc, oc2⟩ := e.own h
      have nc : c ≠ a := fun z => by subst z; exact ne (e.inj hi h ha hu)
      exact ⟨c, us, hu, sc, by rw [upd_ne nc]; exact hc, oc2.put sb⟩
  val {j u} h := by
    rcases sl_set h with ⟨rfl, z⟩ | ⟨ne, h⟩
    · cases z
    · exact e.val h
  inj {j k' ds' es' b} h1 h2 g1 g2 := by
    have f : ∀ {j : Nat} {es' : List Dt}, (ρ.set i (.o es))[j]? = some (.o es') → ∃ x, ρ[j]? = some (.o x) := fun h => by
      rcases sl_set h with ⟨rfl, z⟩ | ⟨ne, h⟩
      · exact ⟨_, hi⟩
      · exact ⟨_, h⟩
    obtain ⟨x, h1⟩ := f h1
    obtain ⟨y, h2⟩ := f h2
    exact e.inj h1 h2 g1 g2
/-- a list of its own is a datum from now on -/
theorem En.frz {i : Nat} {a : Addr} {ds : List Dt} (e : En H S σ ρ) (hi : ρ[i]? = some (.o ds)) (ha : σ[i]? = some (some (.ref a))) : En H (fun b => S b ∧ b ≠ a) σ (ρ.set i (.d (.lst ds))) where
  len := by rw [List.length_set]; exact e.len
  lv := fun b hb => e.lv b hb.1
  dat {j d'} h := by
    rcases sl_set h with ⟨rfl, z⟩ | ⟨ne, h⟩
    · cases z
      obtain ⟨b, vs, hb, sb, hv, ov⟩ := e.own hi
      rw [ha] at hb; cases hb
      exact ⟨_, ha, .lst hv (fun z => z.2 rfl) (ov.sub fun _ z => z.1)⟩
    · obtain ⟨u, hu, ou⟩ := e.dat h
      exact ⟨u, hu, ou.sub fun _ z => z.1⟩
  own {j ds'} h := by
    rcases sl_set h with ⟨rfl, z⟩ | ⟨ne, h⟩
    · cases z
    · obtain ⟨c, us, hu, sc, hc, oc2⟩ := e.own h
      have nc : c ≠ a := fun z => by subst z; exact ne (e.inj hi h ha hu)
      exact ⟨c, us, hu, ⟨sc, nc⟩, hc, oc2.sub fun _ z => z.1⟩
  val {j u} h := by
    rcases sl_set h with ⟨rfl, z⟩ | ⟨ne, h⟩
    · cases z
    · exact e.val h
  inj {j k' ds' es' b} h1 h2 g1 g2 := by
    rcases sl_set h1 with ⟨rfl, z⟩ | ⟨n1, h1⟩
    · cases z
    rcases sl_set h2 with ⟨rfl, z⟩ | ⟨n2, h2⟩
    · cases z
    exact e.inj h1 h2 g1 g2
def wipeR (ρ : Rho) : List Nat → Rho
  | [] => ρ
  | v :: vs => (wipeR ρ vs).set v .no
theorem En.wipe (e : En H S σ ρ) : ∀ vs : List Nat, En H S (L2.wipe σ vs) (wipeR ρ vs)
  | [] => e
  | v :: vs => (En.wipe e vs).clr

theorem wipe_set {σ : L2.St} {v : Option V} {i : Nat} : ∀ {vs : List Nat}, i ∈ vs → L2.wipe (σ.set i v) vs = L2.wipe σ vs
  | j :: vs, h => by
    show (L2.wipe (σ.set i v) vs).set j none = (L2.wipe σ vs).set j none
    by_cases c : i ∈ vs
    · rw [wipe_set c]
    · have e : i = j := by
        rcases List.mem_cons.mp h with e | e
        · exact e
        · exact absurd e c
      subst e
      have f : ∀ us : List Nat, i ∉ us → L2.wipe (σ.set i v) us = (L2.wipe σ us).set i v := by
        intro us
        induction us with
        | nil => intro _; rfl
        | cons k us ih =>
          intro hn
          show (L2.wipe (σ.set i v) us).set k none = ((L2.wipe σ us).set k none).set i v
          have hk : i ≠ k := fun z => hn (z ▸ List.mem_cons_self)
          rw [ih (fun z => hn (List.mem_cons_of_mem _ z)), List.set_comm _ _ hk]
      rw [f vs c, List.set_set]
theorem wipe_wipe (σ : L2.St) (vs : List Nat) : L2.wipe (L2.wipe σ vs) vs = L2.wipe σ vs := by
  have g : ∀ (us : List Nat) (τ : L2.St), (∀ x ∈ us, x ∈ vs) → L2.wipe (L2.wipe τ us) vs = L2.wipe τ vs := by
    intro us
    induction us with
    | nil => intro τ _; rfl
    | cons k us ih =>
      intro τ h
      show L2.wipe ((L2.wipe τ us).set k none) vs = _
      rw [wipe_set (h k List.mem_cons_self)]
      exact ih τ fun x hx => h x (List.mem_cons_of_mem _ hx)
  exact g vs σ fun _ h => h
end
/-! ### expressions -/
def Ep (te : TE) (ρ : Rho) (d : Dt) : Prop := ∀ H S σ, En H S σ ρ → DE te σ H S d
def Et (tt : TT) (ρ : Rho) (b : Bool) : Prop := ∀ H S σ, En H S σ ρ → DT tt σ H S b
def Ea (ta : TA) (ρ : Rho) (ds : List Dt) : Prop := ∀ H S σ, En H S σ ρ → DA ta σ H S ds
/-- a list to be read -/
def El (te : TE) (ρ : Rho) (ds : List Dt) : Prop := ∀ H S σ (Q : VK), En H S σ ρ → (∀ a vs H2, Same H H2 → H2 a = some (.lst vs) → Ocs H2 S vs ds → Q (.ref a) H2) → te σ H Q
/-- a new list -/
def Ef (te : TE) (ρ : Rho) (ds : List Dt) : Prop := ∀ H S σ (Q : VK), En H S σ ρ → (∀ a vs H2, Same H H2 → H a = none → H2 a = some (.lst vs) → Ocs H2 (And1 S a) vs ds → Q (.ref a) H2) → te σ H Q
section
variable {ρ : Rho} {K : PySem.W.Frag} {te ta tb tl : TE} {tt tu : TT} {d e : Dt} {ds es : List Dt} {i j : Int}
theorem Ep.go {H : Hp} {S : AS} {σ : L2.St} {Q : VK} (h : Ep te ρ d) (en : En H S σ ρ) (q : ∀ v H2, Same H H2 → Oc H2 S v d → Q v H2) : te σ H Q := (h H S σ en).go en.lv q
theorem Et.go {H : Hp} {S : AS} {σ : L2.St} {Q : Bool → Hp → Prop} {b : Bool} (h : Et tt ρ b) (en : En H S σ ρ) (q : ∀ H2, Same H H2 → Q b H2) : tt σ H Q := (h H S σ en).go en.lv q
theorem Ef.l (h : Ef te ρ ds) : El te ρ ds := fun H S σ Q en q => h H S σ Q en fun a vs H2 k na ha oc => q a vs H2 k ha (oc.sub fun _ z => .inl z)
theorem Ep.l (h : Ep te ρ (.lst ds)) : El te ρ ds := fun H S σ Q en q => h.go en fun v H2 k o => by
  obtain ⟨a, vs, rfl, ha, _, oc⟩ := o.lst_inv
  exact q a vs H2 k ha oc
theorem Ef.p (h : Ef te ρ ds) : Ep te ρ (.lst ds) := fun H S σ en H1 S1 Q x q => h H1 S1 σ Q (en.lift x) fun a vs H2 k na ha oc => q _ _ k (.lst ha (Lv.out x.live na) (oc.sub fun _ z => .inl z))
theorem E_var {i : Nat} (h : ρ[i]? = some (.d d)) : Ep (tVar i) ρ d := fun H S σ en => by
  obtain ⟨v, hv, o⟩ := en.dat h
  exact D_var hv o
theorem E_own {i : Nat} (h : ρ[i]? = some (.o ds)) : El (tVar i) ρ ds := fun H S σ Q en q => by
  obtain ⟨a, vs, hv, _, ha, oc⟩ := en.own h
  exact ⟨_, hv, q a vs H (fun _ _ z => z) ha oc⟩
theorem E_int (i : Int) : Ep (tC (.int i)) ρ (.int i) := fun H S σ en => D_int i
theorem E_str (i : Str) : Ep (tC (.str i)) ρ (.str i) := fun H S σ en => D_str i
theorem E_bl (i : Bool) : Ep (tC (.bl i)) ρ (.bl i) := fun H S σ en => D_bl i
theorem E_non : Ep (tC .non) ρ .non := fun H S σ en H1 S1 Q x q => q _ _ (fun _ _ z => z) .non
theorem E_eq (h : Ep te ρ d) (z : d = e) : Ep te ρ e := z ▸ h
theorem Ef.eq (h : Ef te ρ ds) (z : ds = es) : Ef te ρ es := z ▸ h
theorem El.eq (h : El te ρ ds) (z : ds = es) : El te ρ es := z ▸ h
theorem Et.eq {b c : Bool} (h : Et tt ρ b) (z : b = c) : Et tt ρ c := z ▸ h
theorem Ea.eq {ta : TA} (h : Ea ta ρ ds) (z : ds = es) : Ea ta ρ es := z ▸ h
theorem E_add (ha : Ep ta ρ (.int i)) (hb : Ep tb ρ (.int j)) : Ep (tOp (rI0 fun i j => .int (i + j)) ta tb) ρ (.int (i + j)) := fun H S σ en => D_add (ha H S σ en) (hb H S σ en)
theorem E_sub (ha : Ep ta ρ (.int i)) (hb : Ep tb ρ (.int j)) : Ep (tOp (rI0 fun i j => .int (i - j)) ta tb) ρ (.int (i - j)) := fun H S σ en => D_sub (ha H S σ en) (hb H S σ en)
theorem E_op0 {f : Int → Int → V} {g : Int → Int → Dt} (hf : ∀ H S i j, Oc H S (f i j) (g i j)) (ha : Ep ta ρ (.int i)) (hb : Ep tb ρ (.int j)) : Ep (tOp (rI0 f) ta tb) ρ (g i j) := fun H S σ en H1 S1 Q x q =>
  (ha.go (en.lift x)) fun v H2 k o => (hb.go ((en.lift x).same k)) fun u H3 k3 o3 => by
    rw [o.int_inv, o3.int_inv]
    exact ⟨i, j, rfl, rfl, q _ _ (k.trans k3) (hf _ _ _ _)⟩
theorem E_lt (ha : Ep ta ρ (.int i)) (hb : Ep tb ρ (.int j)) : Ep (tOp (rI0 fun i j => .bl (decide (i < j))) ta tb) ρ (.bl (decide (i < j))) := E_op0 (g := fun i j => .bl (decide (i < j))) (fun _ _ _ _ => .bl _) ha hb
theorem E_le (ha : Ep ta ρ (.int i)) (hb : Ep tb ρ (.int j)) : Ep (tOp (rI0 fun i j => .bl (decide (i ≤ j))) ta tb) ρ (.bl (decide (i ≤ j))) := E_op0 (g := fun i j => .bl (decide (i ≤ j))) (fun _ _ _ _ => .bl _) ha hb
theorem E_gt (ha : Ep ta ρ (.int i)) (hb : Ep tb ρ (.int j)) : Ep (tOp (rI0 fun i j => .bl (decide (j < i))) ta tb) ρ (.bl (decide (j < i))) := E_op0 (g := fun i j => .bl (decide (j < i))) (fun _ _ _ _ => .bl _) ha hb
theorem E_ge (ha : Ep ta ρ (.int i)) (hb : Ep tb ρ (.int j)) : Ep (tOp (rI0 fun i j => .bl (decide (j ≤ i))) ta tb) ρ (.bl (decide (j ≤ i))) := E_op0 (g := fun i j => .bl (decide (j ≤ i))) (fun _ _ _ _ => .bl _) ha hb
theorem E_neg {n : Int} (h : Ep te ρ (.int n)) : Ep (tUn (rU fun i => .int (-i)) te) ρ (.int (-n)) := fun H S σ en H1 S1 Q x q => (h.go (en.lift x)) fun v H2 k o => by
  rw [o.int_inv]; exact ⟨n, rfl, q _ _ k (.int _)⟩
theorem E_nil : Ea tNil ρ [] := fun H S σ en => D_nil
theorem E_cons {t : TA} (h : Ep te ρ d) (ht : Ea t ρ ds) : Ea (tCons te t) ρ (d :: ds) := fun H S σ en => D_cons (h H S σ en) (ht H S σ en)
theorem E_starL {t : TA} (h : El te ρ ds) (ht : Ea t ρ es) : Ea (StX.tStar K te t) ρ (ds ++ es) := fun H S σ en H1 S1 Q x q =>
  h H1 S1 σ _ (en.lift x) fun a vs H2 k ha oa => ⟨a, vs, rfl, .inr (SqL.of ha), (ht H2 S1 σ ((en.lift x).same k)) H2 S1 _ (Lift.refl (Lv.same k x.live)) fun ws H3 k3 o3 => q _ _ (k.trans k3) ((oa.same k3).append o3)⟩
theorem E_starT {t : TA} {z : Bool} (h : Ep te ρ (.tup z ds)) (ht : Ea t ρ es) : Ea (StX.tStar K te t) ρ (ds ++ es) := fun H S σ en => D_starT (h H S σ en) (ht H S σ en)
theorem E_tup {t : TA} (h : Ea t ρ ds) (hz : ds.length ≤ 1000) : Ep (tTupF t) ρ (.tup true ds) := fun H S σ en => D_tup (h H S σ en) hz
theorem E_lst {t : TA} (h : Ea t ρ ds) (hz : ds.length ≤ 1000000) : Ef (tLst t) ρ ds := fun H S σ Q en q =>
  h H S σ en H S _ (Lift.refl en.lv) fun vs H2 k o => ⟨Nat.le_trans (show _ ≤ 1000000 by rw [o.len]; exact hz) (by decide), fun p hp => by
    have hn : H p = none := by
      cases c : H p with
      | none => rfl
      | some u => rw [k _ _ c] at hp; cases hp
    exact q p vs _ (k.trans (same_upd hp)) hn upd_same ((o.add hp).same (same_upd hp))⟩
theorem E_cat (ha : Ep ta ρ (.tup true ds)) (hb : Ep tb ρ (.tup true es)) (hz : ds.length + es.length ≤ 1000) : Ep (tOp (rCatF K) ta tb) ρ (.tup true (ds ++ es)) := fun H S σ en => D_cat (ha H S σ en) (hb H S σ en) hz
theorem E_catL (ha : El ta ρ ds) (hb : El tb ρ es) (hz : ds.length + es.length ≤ 1000000) : Ef (tOp rCat ta tb) ρ (ds ++ es) := fun H S σ Q en q =>
  ha H S σ _ en fun a xs H2 k ea oa => hb H2 S σ _ (en.same k) fun b ys H3 k3 eb ob => by
    have la := oa.len
    have lb := ob.len
    refine ⟨a, b, xs, ys, rfl, rfl, k3 _ _ ea, eb, Nat.le_trans (show _ ≤ 1000000 by omega) (by decide), fun p hp => ?_⟩
    have hn : H p = none := none_back (k.trans k3) hp
    exact q p _ _ ((k.trans k3).trans (same_upd hp)) hn upd_same ((((oa.same k3).append ob).add hp).same (same_upd hp))
theorem E_tupOf (h : El te ρ ds) : Ep (tTupOfF K te) ρ (.tup true ds) := fun H S σ en H1 S1 Q x q =>
  h H1 S1 σ _ (en.lift x) fun a vs H2 k ha oa => ⟨a, vs, rfl, SqL.of ha, fun p H3 hp k3 tp g => q _ _ (k.trans k3) (.tup tp (Lv.out (Lv.same k x.live) hp) (oa.same k3))⟩
theorem E_ixT {z : Bool} {n : Nat} (ha : Ep ta ρ (.tup z ds)) (hb : Ep tb ρ (.int (n : Nat))) (hd : ds[n]? = some d) : Ep (tOp (rIxT K) ta tb) ρ d := fun H S σ en => D_ixT (ha H S σ en) (hb H S σ en) hd
theorem E_ixL {n : Nat} (ha : El ta ρ ds) (hb : Ep tb ρ (.int (n : Nat))) (hd : ds[n]? = some d) : Ep (tOp (rIxL K) ta tb) ρ d := fun H S σ en H1 S1 Q x q =>
  ha H1 S1 σ _ (en.lift x) fun a xs H2 k ea oa => (hb.go ((en.lift x).same k)) fun u H3 k3 o3 => by
    have e := o3.int_inv
    subst e
    obtain ⟨w, hw, ow⟩ := (oa.same k3).at hd
    exact ⟨a, xs, _, w, rfl, rfl, SqL.of (k3 _ _ ea), atI_nat hw, q _ _ (k.trans k3) ow⟩
theorem E_last (ha : El ta ρ (ds ++ [d])) : Ep (tOp (rIxL K) ta (tUn (rU fun i => .int (-i)) (tC (.int 1)))) ρ d := fun H S σ en H1 S1 Q x q =>
  ha H1 S1 σ _ (en.lift x) fun a xs H2 k ea oa => by
    have l := oa.len
    rw [List.length_append, List.length_singleton] at l
    have e : xs = xs.dropLast ++ [xs.getLast (by intro z; subst z; simp at l)] := (List.dropLast_concat_getLast _).symm
    generalize xs.getLast (by intro z; subst z; simp at l) = y at e
    generalize xs.dropLast = ys at e
    subst e
    obtain ⟨d', e1, o1⟩ := oa.get (i := ys.length) (x := y) (by rw [List.getElem?_append_right (Nat.le_refl _), Nat.sub_self]; rfl)
    rw [List.length_append, List.length_singleton] at l
    have l2 : ys.length = ds.length := by omega
    rw [l2, List.getElem?_append_right (Nat.le_refl _), Nat.sub_self] at e1
    have e3 := Option.some.inj (show some d = some d' from e1)
    subst e3
    exact ⟨_, rfl, a, _, _, y, rfl, rfl, SqL.of ea, atI_last ys y, q _ _ k o1⟩
theorem E_lenL (h : El te ρ ds) : Ep (tCB (fun xs H Q => ∃ p ys, xs = [.ref p] ∧ (SqL K H p ys ∨ SqT K H p ys) ∧ Q (.int ys.length) H) (tCons te tNil)) ρ (.int (ds.length : Nat)) := fun H S σ en H1 S1 Q x q =>
  h H1 S1 σ _ (en.lift x) fun a vs H2 k ha oa => ⟨a, vs, rfl, .inl (SqL.of ha), by rw [oa.len]; exact q _ _ k (.int _)⟩
theorem E_lenT {z : Bool} (h : Ep te ρ (.tup z ds)) : Ep (tCB (fun xs H Q => ∃ p ys, xs = [.ref p] ∧ (SqL K H p ys ∨ SqT K H p ys) ∧ Q (.int ys.length) H) (tCons te tNil)) ρ (.int (ds.length : Nat)) := fun H S σ en H1 S1 Q x q =>
  h.go (en.lift x) fun v H2 k o => by
    obtain ⟨a, xs, rfl, ea, na, oa⟩ := o.tup_inv
    exact ⟨a, xs, rfl, .inr ea.sq, by rw [oa.len]; exact q _ _ k (.int _)⟩
theorem E_if {b : Bool} (ht : Et tt ρ b) (h1 : b = true → Ep ta ρ d) (h0 : b = false → Ep tb ρ d) : Ep (tIf tt ta tb) ρ d := fun H S σ en => D_if (ht H S σ en) (fun z => h1 z H S σ en) fun z => h0 z H S σ en
theorem E_test {b : Bool} (h : Ep te ρ (.bl b)) : Et (tTest te) ρ b := fun H S σ en H1 S1 Q x q => h.go (en.lift x) fun v H2 k o => by
  rw [o.bl_inv]; exact ⟨b, rfl, q H2 k⟩
theorem E_val {b : Bool} (h : Ep te ρ (.bl b)) : Et (tB te) ρ b := fun H S σ en => T_val (h H S σ en)
theorem E_not {b : Bool} (h : Et tt ρ b) : Et (tNot tt) ρ (!b) := fun H S σ en => T_not (h H S σ en)
theorem E_tand {b c : Bool} (h : Et tt ρ b) (h2 : b = true → Et tu ρ c) : Et (tAnd tt tu) ρ (b && c) := fun H S σ en H1 S1 Q x q => h.go (en.lift x) fun H2 k => by
  cases b with
  | false => exact iteF (q _ k)
  | true => exact iteT ((h2 rfl).go ((en.lift x).same k) fun H3 k3 => q _ (k.trans k3))
theorem E_tor {b c : Bool} (h : Et tt ρ b) (h2 : b = false → Et tu ρ c) : Et (tOr tt tu) ρ (b || c) := fun H S σ en H1 S1 Q x q => h.go (en.lift x) fun H2 k => by
  cases b with
  | true => exact iteT (q _ k)
  | false => exact iteF ((h2 rfl).go ((en.lift x).same k) fun H3 k3 => q _ (k.trans k3))
theorem E_and {b c : Bool} (h : Ep ta ρ (.bl b)) (h2 : b = true → Ep tb ρ (.bl c)) : Ep (tAndV ta tb) ρ (.bl (b && c)) := fun H S σ en H1 S1 Q x q => h.go (en.lift x) fun v H2 k o => by
  rw [o.bl_inv]
  refine ⟨b, rfl, ?_⟩
  cases b with
  | false => exact iteF (q _ _ k (.bl _))
  | true => exact iteT ((h2 rfl).go ((en.lift x).same k) fun u H3 k3 o3 => by rw [o3.bl_inv]; exact q _ _ (k.trans k3) (.bl _))
theorem E_or {b c : Bool} (h : Ep ta ρ (.bl b)) (h2 : b = false → Ep tb ρ (.bl c)) : Ep (tOrV ta tb) ρ (.bl (b || c)) := fun H S σ en H1 S1 Q x q => h.go (en.lift x) fun v H2 k o => by
  rw [o.bl_inv]
  refine ⟨b, rfl, ?_⟩
  cases b with
  | true => exact iteT (q _ _ k (.bl _))
  | false => exact iteF ((h2 rfl).go ((en.lift x).same k) fun u H3 k3 o3 => by rw [o3.bl_inv]; exact q _ _ (k.trans k3) (.bl _))
/-- o.f -/
theorem E_fld {C : Addr} {ns : List Str} {f : Str} (h : Ep te ρ (.ins C ns ds)) (c : Cls K C) (n : NoAttr K C f) (l : (ns.zip ds).lookup f = some d) : Ep (tFld K te f) ρ d := fun H S σ en H1 S1 Q x q => h.go (en.lift x) fun v H2 k o => by
  obtain ⟨a, dx, fs, rfl, ha, na, hn, oa⟩ := o.ins_inv
  have key : ∀ (fs : List (Str × V)) (ns : List Str) (ds : List Dt), fs.map Prod.fst = ns → Ocs H2 S1 (fs.map Prod.snd) ds → (ns.zip ds).lookup f = some d → ∃ v, fs.lookup f = some v ∧ Oc H2 S1 v d := by
    intro fs
    induction fs with
    | nil => intro ns ds h1 h2 h3; cases h1; cases h2; cases h3
    | cons q r ih =>
      intro ns ds h1 h2 h3
      subst h1
      cases h2 with
      | @cons _ d' _ ds' o t =>
        obtain ⟨g, u⟩ := q
        rw [List.map_cons, List.zip_cons_cons, List.lookup_cons] at h3
        rw [List.lookup_cons]
        cases c : f == g with
        | true => rw [c] at h3; cases h3; exact ⟨u, rfl, o⟩
        | false => rw [c] at h3; exact ih _ _ rfl t h3
  obtain ⟨u, hl, ou⟩ := key fs ns ds hn oa l
  exact ⟨_, C, dx, fs, u, rfl, ha, c, n, hl, q _ _ k ou⟩
/-! ### calls -/
/-- a def that makes a datum of data -/
def spF (pre : List Dt → Prop) (F : List Dt → Dt) : Sp := fun vs H Q _ => ∃ (S : AS) (ds : List Dt), Ocs H S vs ds ∧ Lv H S ∧ pre ds ∧ ∀ v H', Same H H' → Oc H' S v (F ds) → Q v H'
theorem E_call {pre : List Dt → Prop} {F : List Dt → Dt} {E : XK} {t : TA} (h : Ea t ρ ds) (hp : pre ds) : Ep (tCall (spF pre F) [] E t) ρ (F ds) := fun H S σ en => D_fn (h H S σ en) fun H1 S1 vs Q x o q => ⟨S1, ds, o, x.live, hp, fun v H' k o => q v H' k o⟩
end
end Lc

namespace Lc
open PySem PySem.Spec PyProof.Rows L2 RZ PySem.W
/-! ### statements -/
structure Eo where
  nx : Rho → Prop
  rt : Dt → Prop
  bk : Rho → Prop := fun _ => False
  ct : Rho → Prop := fun _ => False
/-- since the entry: what stood stands, own lists are younger -/
structure Rl (H0 : Hp) (S0 : AS) (H : Hp) (S : AS) (σ : L2.St) (ρ : Rho) : Prop where
  same : Same H0 H
  sub : ∀ a, S0 a → S a
  lv0 : Lv H0 S0
  fresh : ∀ {i : Nat} {ds : List Dt} {a : Addr}, ρ[i]? = some (.o ds) → σ[i]? = some (some (.ref a)) → H0 a = none
/-- own lists are some that were -/
structure Ow (σ : L2.St) (ρ : Rho) (σ' : L2.St) (ρ' : Rho) : Prop where
  go : ∀ (i : Nat) (ds : List Dt) (a : Addr), ρ'[i]? = some (.o ds) → σ'[i]? = some (some (.ref a)) → ∃ (j : Nat) (es : List Dt), ρ[j]? = some (.o es) ∧ σ[j]? = some (some (.ref a))
theorem Ow.refl (σ : L2.St) (ρ : Rho) : Ow σ ρ σ ρ := ⟨fun _ _ _ h g => ⟨_, _, h, g⟩⟩
theorem Ow.trans {σ σ1 σ2 : L2.St} {ρ ρ1 ρ2 : Rho} (x : Ow σ ρ σ1 ρ1) (y : Ow σ1 ρ1 σ2 ρ2) : Ow σ ρ σ2 ρ2 := ⟨fun i ds a h g => let ⟨_, _, h1, g1⟩ := y.go i ds a h g; x.go _ _ _ h1 g1⟩
theorem Ow.set {σ : L2.St} {ρ : Rho} {i : Nat} {v : Option V} {d : Dt} : Ow σ ρ (σ.set i v) (ρ.set i (.d d)) := ⟨fun j ds a h g => by
  rcases sl_set h with ⟨rfl, z⟩ | ⟨ne, h⟩
  · cases z
  · rw [List.getElem?_set_ne ne] at g
    exact ⟨_, _, h, g⟩⟩
section
variable {H0 : Hp} {S0 : AS} {H H' : Hp} {S S' : AS} {σ σ' : L2.St} {ρ ρ' : Rho} {K : PySem.W.Frag}
theorem Rl.step (r : Rl H0 S0 H S σ ρ) (k : Same H H') (w : Ow σ ρ σ' ρ') : Rl H0 S0 H' S σ' ρ' := ⟨r.same.trans k, r.sub, r.lv0, fun h g => let ⟨_, _, h1, g1⟩ := w.go _ _ _ h g; r.fresh h1 g1⟩
theorem Rl.refl (l : Lv H S) (n : ∀ (i : Nat) (ds : List Dt), ρ[i]? ≠ some (.o ds)) : Rl H S H S σ ρ := ⟨fun _ _ z => z, fun _ z => z, l, fun h _ => absurd h (n _ _)⟩
theorem Rl.back {v : V} {d : Dt} (r : Rl H0 S0 H S σ ρ) (o : Oc H S v d) : Oc H S0 v d := o.sub r.sub
def Sv (H0 : Hp) (S0 : AS) (ts : TS) (ρ : Rho) (O : Eo) : Prop := ∀ (H : Hp) (S : AS) (σ : L2.St) (D : Ends), En H S σ ρ → Rl H0 S0 H S σ ρ →
  (∀ ρ' H' S' σ', O.nx ρ' → En H' S' σ' ρ' → Rl H0 S0 H' S' σ' ρ' → Mv H S H' S' → D.nx σ' H') →
  (∀ d v H', O.rt d → Same H0 H' → Oc H' S0 v d → D.rt v H') →
  (∀ ρ' H' S' σ', O.bk ρ' → En H' S' σ' ρ' → Rl H0 S0 H' S' σ' ρ' → Mv H S H' S' → D.bk σ' H') →
  (∀ ρ' H' S' σ', O.ct ρ' → En H' S' σ' ρ' → Rl H0 S0 H' S' σ' ρ' → Mv H S H' S' → D.ct σ' H') → ts D σ H
variable {O : Eo} {ts tu : TS} {te tl : TE} {tt : TT} {d : Dt} {ds es : List Dt}
theorem Sv_seq (N : Rho → Prop) (h1 : Sv H0 S0 ts ρ { O with nx := N }) (h2 : ∀ ρ', N ρ' → Sv H0 S0 tu ρ' O) : Sv H0 S0 (tSeq ts tu) ρ O := fun H S σ D en rl kn kr kb kc =>
  h1 H S σ { D with nx := tu D } en rl (fun ρ' H' S' σ' n e r m => h2 ρ' n H' S' σ' D e r (fun ρ2 H2 S2 σ2 n2 e2 r2 m2 => kn ρ2 H2 S2 σ2 n2 e2 r2 (m.trans m2)) kr (fun ρ2 H2 S2 σ2 n2 e2 r2 m2 => kb ρ2 H2 S2 σ2 n2 e2 r2 (m.trans m2)) (fun ρ2 H2 S2 σ2 n2 e2 r2 m2 => kc ρ2 H2 S2 σ2 n2 e2 r2 (m.trans m2))) kr kb kc
/-- what follows is the one state -/
theorem Sv_then {ρ1 : Rho} (h1 : Sv H0 S0 ts ρ { O with nx := fun r => r = ρ1 }) (h2 : Sv H0 S0 tu ρ1 O) : Sv H0 S0 (tSeq ts tu) ρ O := Sv_seq (fun r => r = ρ1) h1 fun r e => e ▸ h2
theorem Sv_skip (h : O.nx ρ) : Sv H0 S0 tNext ρ O := fun H S σ D en rl kn kr kb kc => kn ρ H S σ h en rl (Mv.refl en.lv)
theorem Sv_set {i : Nat} (h : Ep te ρ d) (n : O.nx (ρ.set i (.d d))) : Sv H0 S0 (tAsg te (gName i)) ρ O := fun H S σ D en rl kn kr kb kc =>
  h.go en fun v H2 k o => kn _ _ _ _ n ((en.same k).set o) (rl.step k (Ow.set)) (Mv.same en.lv k)
theorem Sv_new {i : Nat} (h : Ef te ρ ds) (n : O.nx (ρ.set i (.o ds))) : Sv H0 S0 (tAsg te (gName i)) ρ O := fun H S σ D en rl kn kr kb kc =>
  h H S σ _ en fun a vs H2 k na ha oc => kn _ _ _ _ n (en.setO k na ha oc) ⟨rl.same.trans k, fun b z => .inl (rl.sub b z), rl.lv0, fun {j ds' b} h g => by
    rcases sl_set h with ⟨rfl, z⟩ | ⟨ne, h⟩
    · have hl : i < σ.length := by
        have := (List.getElem?_eq_some_iff.mp g).1; rwa [List.length_set] at this
      rw [List.getElem?_set_self hl] at g
      cases g
      exact none_back rl.same na
    · rw [List.getElem?_set_ne ne] at g
      exact rl.fresh h g⟩ ⟨fun o => (o.add na).same k, fun b hb => by
        rcases hb with hb | rfl
        · exact Lv.same k en.lv b hb
        · rw [ha]; exact fun z => nomatch z⟩
theorem Sv_setT {i : Nat} {ρ1 : Rho} (h : Ep te ρ d) (e : ρ.set i (.d d) = ρ1) (h2 : Sv H0 S0 tu ρ1 O) : Sv H0 S0 (tSeq (tAsg te (gName i)) tu) ρ O := Sv_then (Sv_set h e) h2
theorem Sv_newT {i : Nat} {ρ1 : Rho} (h : Ef te ρ ds) (e : ρ.set i (.o ds) = ρ1) (h2 : Sv H0 S0 tu ρ1 O) : Sv H0 S0 (tSeq (tAsg te (gName i)) tu) ρ O := Sv_then (Sv_new h e) h2
theorem Sv_drop (h : Ep te ρ d) (n : O.nx ρ) : Sv H0 S0 (tDrop te) ρ O := fun H S σ D en rl kn kr kb kc =>
  h.go en fun v H2 k o => kn _ _ _ _ n (en.same k) (rl.step k (Ow.refl _ _)) (Mv.same en.lv k)
theorem Sv_if {b : Bool} (h : Et tt ρ b) (h1 : b = true → Sv H0 S0 ts ρ O) (h0 : b = false → Sv H0 S0 tu ρ O) : Sv H0 S0 (tIfS tt ts tu) ρ O := fun H S σ D en rl kn kr kb kc =>
  h.go en fun H2 k => by
    have en2 := en.same k
    have rl2 := rl.step k (Ow.refl σ ρ)
    have m0 := Mv.same en.lv k
    cases b with
    | true => exact iteT (h1 rfl H2 S σ D en2 rl2 (fun ρ' H' S' σ' n e r m => kn ρ' H' S' σ' n e r (m0.trans m)) kr (fun ρ' H' S' σ' n e r m => kb ρ' H' S' σ' n e r (m0.trans m)) (fun ρ' H' S' σ' n e r m => kc ρ' H' S' σ' n e r (m0.trans m)))
    | false => exact iteF (h0 rfl H2 S σ D en2 rl2 (fun ρ' H' S' σ' n e r m => kn ρ' H' S' σ' n e r (m0.trans m)) kr (fun ρ' H' S' σ' n e r m => kb ρ' H' S' σ' n e r (m0.trans m)) (fun ρ' H' S' σ' n e r m => kc ρ' H' S' σ' n e r (m0.trans m)))
theorem Sv_ret (h : Ep te ρ d) (n : O.rt d) : Sv H0 S0 (tRet te) ρ O := fun H S σ D en rl kn kr kb kc =>
  h.go en fun v H2 k o => kr d v H2 n (rl.same.trans k) (o.sub rl.sub)
theorem Sv_bk (n : O.bk ρ) : Sv H0 S0 (fun D σ H => D.bk σ H) ρ O := fun H S σ D en rl kn kr kb kc => kb ρ H S σ n en rl (Mv.refl en.lv)
theorem Sv_ct (n : O.ct ρ) : Sv H0 S0 (fun D σ H => D.ct σ H) ρ O := fun H S σ D en rl kn kr kb kc => kc ρ H S σ n en rl (Mv.refl en.lv)
/-- an own list is a datum from here on -/
theorem Sv_frz {i : Nat} {ρ1 : Rho} (hi : ρ[i]? = some (.o ds)) (e : ρ.set i (.d (.lst ds)) = ρ1) (h : Sv H0 S0 ts ρ1 O) : Sv H0 S0 ts ρ O := fun H S σ D en rl kn kr kb kc => by
  obtain ⟨a, vs, ha, sa, hv, oc⟩ := en.own hi
  have na := rl.fresh hi ha
  subst e
  have back : ∀ {u : V} {e : Dt}, Oc H S u e → Oc H (fun b => S b ∧ b ≠ a) u e := fun o => o.sub fun _ z => z.1
  refine h H _ σ D (en.frz hi ha) ⟨rl.same, fun b hb => ⟨rl.sub b hb, fun z => rl.lv0 b hb (z ▸ na)⟩, rl.lv0, fun {j ds' b} h g => ?_⟩ (fun ρ' H' S' σ' n e r m => kn ρ' H' S' σ' n e r ⟨fun o => m.ob (back o), m.lv⟩) kr (fun ρ' H' S' σ' n e r m => kb ρ' H' S' σ' n e r ⟨fun o => m.ob (back o), m.lv⟩) (fun ρ' H' S' σ' n e r m => kc ρ' H' S' σ' n e r ⟨fun o => m.ob (back o), m.lv⟩)
  rcases sl_set h with ⟨rfl, z⟩ | ⟨ne, h⟩
  · cases z
  · exact rl.fresh h g
/-- xs.append(e) -/
theorem Sv_app {i : Nat} (hi : ρ[i]? = some (.o ds)) (h : Ep te ρ d) (hz : ds.length < 1000000) (n : O.nx (ρ.set i (.o (ds ++ [d])))) : Sv H0 S0 (tDrop (tBM K "list" rAppend (tVar i) (tCons te tNil))) ρ O := fun H S σ D en rl kn kr kb kc => by
  obtain ⟨a, vs, ha, sa, hv, oc⟩ := en.own hi
  refine ⟨_, ha, .inl ⟨rfl, _, SqL.of hv⟩, h.go en fun v H2 k o => ⟨a, vs, v, rfl, rfl, k _ _ hv, Nat.lt_of_lt_of_le (show _ < 1000000 by rw [oc.len]; exact hz) (by decide), ?_⟩⟩
  have e2 := (en.same k).put hi ha ((oc.same k).snoc o)
  refine kn _ _ _ _ n e2 ⟨fun b u hb => ?_, rl.sub, rl.lv0, fun {j ds' b} h g => ?_⟩ ⟨fun o => (o.same k).put sa, e2.lv⟩
  · rw [upd_ne (fun z => by rw [z, rl.fresh hi ha] at hb; cases hb)]
    exact k _ _ (rl.same _ _ hb)
  · rcases sl_set h with ⟨rfl, z⟩ | ⟨ne, h⟩
    · exact rl.fresh hi g
    · exact rl.fresh h g
/-- xs.extend(a list) -/
theorem Sv_ext {i : Nat} (hi : ρ[i]? = some (.o ds)) (h : Ep te ρ (.lst es)) (hz : ds.length + es.length ≤ 1000000) (n : O.nx (ρ.set i (.o (ds ++ es)))) : Sv H0 S0 (tDrop (tBM K "list" rExtend (tVar i) (tCons te tNil))) ρ O := fun H S σ D en rl kn kr kb kc => by
  obtain ⟨a, vs, ha, sa, hv, oc⟩ := en.own hi
  refine ⟨_, ha, .inl ⟨rfl, _, SqL.of hv⟩, h.go en fun v H2 k o => ?_⟩
  obtain ⟨b, ws, rfl, hb, nb, ob⟩ := o.lst_inv
  refine ⟨a, b, vs, ws, rfl, rfl, k _ _ hv, hb, Nat.le_trans (show _ ≤ 1000000 by rw [oc.len, ob.len]; exact hz) (by decide), ?_⟩
  have e2 := (en.same k).put hi ha ((oc.same k).append ob)
  refine kn _ _ _ _ n e2 ⟨fun b u hb => ?_, rl.sub, rl.lv0, fun {j ds' b} h g => ?_⟩ ⟨fun o => (o.same k).put sa, e2.lv⟩
  · rw [upd_ne (fun z => by rw [z, rl.fresh hi ha] at hb; cases hb)]
    exact k _ _ (rl.same _ _ hb)
  · rcases sl_set h with ⟨rfl, z⟩ | ⟨ne, h⟩
    · exact rl.fresh hi g
    · exact rl.fresh h g
/-- the body of a def that makes a datum -/
theorem fn_go {D : Ends} (en : En H S σ ρ) (n : ∀ (i : Nat) (ds : List Dt), ρ[i]? ≠ some (.o ds)) (h : Sv H S ts ρ ⟨fun _ => False, fun e => e = d, fun _ => False, fun _ => False⟩) (q : ∀ v H', Same H H' → Oc H' S v d → D.rt v H') : ts D σ H :=
  h H S σ D en (Rl.refl en.lv n) (fun _ _ _ _ z => z.elim) (fun e v H' z k o => q v H' k (z ▸ o)) (fun _ _ _ _ z => z.elim) (fun _ _ _ _ z => z.elim)
/-! ### targets -/
def Eg (g : TG) (d : Dt) (ρ ρ' : Rho) (vs : List Nat) : Prop := ∀ (H : Hp) (S : AS) (σ : L2.St) (v : V) (Q : L2.St → Hp → Prop), En H S σ ρ → Oc H S v d → (∀ σ', En H S σ' ρ' → Ow σ ρ σ' ρ' → L2.wipe σ' vs = L2.wipe σ vs → Q σ' H) → g v σ H Q
theorem G_name {i : Nat} {vs : List Nat} (hm : i ∈ vs) : Eg (gName i) d ρ (ρ.set i (.d d)) vs := fun H S σ v Q en o q => q _ (en.set o) (Ow.set) (wipe_set hm)
def Egs (g : TGs) (ds : List Dt) (ρ ρ' : Rho) (vs : List Nat) : Prop := ∀ (H : Hp) (S : AS) (σ : L2.St) (us : List V) (Q : L2.St → Hp → Prop), En H S σ ρ → Ocs H S us ds → (∀ σ', En H S σ' ρ' → Ow σ ρ σ' ρ' → L2.wipe σ' vs = L2.wipe σ vs → Q σ' H) → g us σ H Q
theorem G_nil {vs : List Nat} : Egs gNil [] ρ ρ vs := fun H S σ us Q en o q => by
  cases o
  exact ⟨rfl, q _ en (Ow.refl _ _) rfl⟩
theorem G_cons {g : TG} {gs : TGs} {ρ1 ρ2 : Rho} {vs : List Nat} (h : Eg g d ρ ρ1 vs) (ht : Egs gs ds ρ1 ρ2 vs) : Egs (gCons g gs) (d :: ds) ρ ρ2 vs := fun H S σ us Q en o q => by
  cases o with
  | cons o t => exact ⟨_, _, rfl, h H S σ _ _ en o fun σ' en' w e => ht H S σ' _ Q en' t fun σ2 en2 w2 e2 => q σ2 en2 (w.trans w2) (e2.trans e)⟩
theorem G_tup {n : Nat} {gs : TGs} {vs : List Nat} {z : Bool} (h : Egs gs ds ρ ρ' vs) (hn : ds.length = n := by rfl) : Eg (gTup K n gs) (.tup z ds) ρ ρ' vs := fun H S σ v Q en o q => by
  obtain ⟨a, xs, rfl, ea, na, oa⟩ := o.tup_inv
  exact ⟨a, xs, rfl, ea.sq, by rw [oa.len]; exact hn, h H S σ xs Q en oa q⟩
/-- a, b, .. = e -/
theorem Sv_asg {g : TG} {vs : List Nat} {ρ1 : Rho} (h : Ep te ρ d) (hg : Eg g d ρ ρ1 vs) (n : O.nx ρ1) : Sv H0 S0 (tAsg te g) ρ O := fun H S σ D en rl kn kr kb kc =>
  h.go en fun v H2 k o => hg H2 S σ v _ (en.same k) o fun σ' en' w _ => kn _ _ _ _ n en' (rl.step k w) (Mv.same en.lv k)
theorem Sv_asgT {g : TG} {vs : List Nat} {ρ1 : Rho} (h : Ep te ρ d) (hg : Eg g d ρ ρ1 vs) (h2 : Sv H0 S0 tu ρ1 O) : Sv H0 S0 (tSeq (tAsg te g) tu) ρ O := Sv_then (Sv_asg h hg rfl) h2
/-! ### what is walked -/
structure Yl (H2 : Hp) (S : AS) (J : It) (g : TG) (n : Nat) (f : Nat → Rho → Rho) (vs : List Nat) : Prop where
  go : ∀ i H' S', Mv H2 S H' S' → i < n → J.go i H'
  stop : ∀ i H' S', Mv H2 S H' S' → n ≤ i → J.stop i H'
  yld : ∀ i H' S' x H'', Mv H2 S H' S' → i < n → J.yld i H' x H'' → Same H' H'' ∧ ∀ (σ : L2.St) (ρ : Rho) (Q : L2.St → Hp → Prop), En H' S' σ ρ → (∀ σ', En H'' S' σ' (f i ρ) → Ow σ ρ σ' (f i ρ) → L2.wipe σ' vs = L2.wipe σ vs → Q σ' H'') → g x σ H'' Q
def Es (wi : TI) (g : TG) (ρ : Rho) (n : Nat) (f : Nat → Rho → Rho) (vs : List Nat) : Prop := ∀ (H : Hp) (S : AS) (σ : L2.St) (R : It → Hp → Prop), En H S σ ρ → (∀ J H2, Same H H2 → Yl H2 S J g n f vs → R J H2) → wi σ H R
theorem Es_list {g : TG} {f : Nat → Rho → Rho} {vs : List Nat} (h : Ep te ρ (.lst ds)) (hg : ∀ i d, ds[i]? = some d → ∀ ρ, Eg g d ρ (f i ρ) vs) : Es (iList K te) g ρ ds.length f vs := fun H S σ R en q =>
  h.go en fun v H2 k o => by
    obtain ⟨a, xs, rfl, ea, na, oa⟩ := o.lst_inv
    refine ⟨a, rfl, ⟨_, SqL.of ea⟩, q _ _ k ⟨fun i H' S' m hi => ?_, fun i H' S' m hi => ?_, fun i H' S' x H'' m hi y => ?_⟩⟩
    · obtain ⟨b, ys, eb, hb, nb, ob⟩ := (m.ob o).lst_inv
      cases eb
      exact ⟨ys, _, SqL.of hb, List.getElem?_eq_getElem (by rw [ob.len]; exact hi)⟩
    · obtain ⟨b, ys, eb, hb, nb, ob⟩ := (m.ob o).lst_inv
      cases eb
      exact ⟨ys, SqL.of hb, by rw [ob.len]; exact hi⟩
    · obtain ⟨b, ys, eb, hb, nb, ob⟩ := (m.ob o).lst_inv
      cases eb
      obtain ⟨e1, fx⟩ := y
      subst e1
      have hx := fx _ (SqL.of hb)
      obtain ⟨d', hd, od⟩ := ob.get hx
      exact ⟨fun _ _ z => z, fun σ' ρ' Q' en' q' => hg i d' hd ρ' _ _ σ' x Q' en' od q'⟩
theorem Es_tup {g : TG} {f : Nat → Rho → Rho} {vs : List Nat} {z : Bool} (h : Ep te ρ (.tup z ds)) (hg : ∀ i d, ds[i]? = some d → ∀ ρ, Eg g d ρ (f i ρ) vs) : Es (iTup K te) g ρ ds.length f vs := fun H S σ R en q =>
  h.go en fun v H2 k o => by
    obtain ⟨a, xs, rfl, ea, na, oa⟩ := o.tup_inv
    refine ⟨a, rfl, ⟨_, ea.sq⟩, q _ _ k ⟨fun i H' S' m hi => ?_, fun i H' S' m hi => ?_, fun i H' S' x H'' m hi y => ?_⟩⟩
    · obtain ⟨b, ys, eb, hb, nb, ob⟩ := (m.ob o).tup_inv
      cases eb
      exact ⟨ys, _, hb.sq, List.getElem?_eq_getElem (by rw [ob.len]; exact hi)⟩
    · obtain ⟨b, ys, eb, hb, nb, ob⟩ := (m.ob o).tup_inv
      cases eb
      exact ⟨ys, hb.sq, by rw [ob.len]; exact hi⟩
    · obtain ⟨b, ys, eb, hb, nb, ob⟩ := (m.ob o).tup_inv
      cases eb
      obtain ⟨e1, fx⟩ := y
      subst e1
      have hx := fx _ (hb.sq)
      obtain ⟨d', hd, od⟩ := ob.get hx
      exact ⟨fun _ _ z => z, fun σ' ρ' Q' en' q' => hg i d' hd ρ' _ _ σ' x Q' en' od q'⟩
theorem Es_rng {n : Nat} {g : TG} {f : Nat → Rho → Rho} {vs : List Nat} (h : Ep te ρ (.int (n : Nat))) (hz : n ≤ 1000000) (hg : ∀ i, i < n → ∀ ρ, Eg g (.int (i : Nat)) ρ (f i ρ) vs) : Es (iRng1 (tCons te tNil)) g ρ n f vs := fun H S σ R en q =>
  h.go en fun v H2 k o => by
    have e := o.int_inv
    subst e
    refine ⟨_, rfl, by omega, by omega, q _ _ k ?_⟩
    rw [Int.toNat_natCast]
    refine ⟨fun i H' S' m hi => hi, fun i H' S' m hi => hi, fun i H' S' x H'' m hi y => ?_⟩
    obtain ⟨e1, e2⟩ := y
    subst e1 e2
    rw [Int.zero_add]
    exact ⟨fun _ _ z => z, fun σ' ρ' Q' en' q' => hg i hi ρ' _ _ σ' _ Q' en' (.int _) q'⟩
/-- enumerate over a tuple -/
theorem Es_enumT {i1 : Nat} {g : TG} {f : Nat → Rho → Rho} {vs : List Nat} {z : Bool} (h : Ep te ρ (.tup z ds)) (hm : i1 ∈ vs) (hg : ∀ i d, ds[i]? = some d → ∀ ρ, Eg g d (ρ.set i1 (.d (.int (i : Nat)))) (f i ρ) vs) : Es (iEnumT K (tCons te tNil)) (gTup K 2 (gCons (gName i1) (gCons g gNil))) ρ ds.length f vs := fun H S σ R en q =>
  h.go en fun v H2 k o => by
    obtain ⟨a, xs, rfl, ea, na, oa⟩ := o.tup_inv
    refine ⟨a, xs, rfl, ea.sq, q _ _ k ⟨fun i H' S' m hi => ?_, fun i H' S' m hi => ?_, fun i H' S' x H'' m hi y => ?_⟩⟩
    · obtain ⟨b, ys, eb, hb, nb, ob⟩ := (m.ob o).tup_inv
      cases eb
      exact ⟨ys, _, hb.sq, List.getElem?_eq_getElem (by rw [ob.len]; exact hi)⟩
    · obtain ⟨b, ys, eb, hb, nb, ob⟩ := (m.ob o).tup_inv
      cases eb
      exact ⟨ys, hb.sq, by rw [ob.len]; exact hi⟩
    · obtain ⟨b, ys, eb, hb, nb, ob⟩ := (m.ob o).tup_inv
      cases eb
      obtain ⟨t, y, rfl, ht, rfl, fx⟩ := y
      have hx := fx _ (hb.sq)
      obtain ⟨d', hd, od⟩ := ob.get hx
      have kt := same_upd (o := .tup [.int (i : Nat), y]) ht
      refine ⟨kt, fun σ' ρ' Q' en' q' => ⟨t, _, rfl, SqT.of upd_same, rfl, _, _, rfl, ?_⟩⟩
      exact ⟨_, _, rfl, hg i d' hd ρ' _ _ _ y _ ((en'.same kt).set (.int (i : Nat))) (od.same kt) fun σ2 en2 w2 e2 => ⟨rfl, q' σ2 en2 (Ow.set.trans w2) (e2.trans (wipe_set hm))⟩⟩
/-- zip of two lists, of two tuples -/
theorem Es_zipL {ta tb : TE} {g1 g2 : TG} {f : Nat → Rho → Rho} {vs : List Nat} (ha : Ep ta ρ (.lst ds)) (hb : Ep tb ρ (.lst es)) (hg : ∀ (i : Nat) (d e : Dt), ds[i]? = some d → es[i]? = some e → ∀ ρ, ∃ ρ1, Eg g1 d ρ ρ1 vs ∧ Eg g2 e ρ1 (f i ρ) vs) : Es (iZipA K (tCons ta (tCons tb tNil))) (gTup K 2 (gCons g1 (gCons g2 gNil))) ρ (min ds.length es.length) f vs := fun H S σ R en q =>
  ha.go en fun va H2 k o => hb.go (en.same k) fun vb H3 k3 o3 => by
    have o' := o.same k3
    obtain ⟨a, xs, rfl, ea, na, oa⟩ := o'.lst_inv
    obtain ⟨b, ys, rfl, eb, nb, ob⟩ := o3.lst_inv
    refine ⟨a, b, xs, ys, rfl, .inl ⟨SqL.of ea, SqL.of eb, q _ _ (k.trans k3) ⟨fun i H' S' m hi => ?_, fun i H' S' m hi => ?_, fun i H' S' x H'' m hi y => ?_⟩⟩⟩
    · obtain ⟨b', xs', e', ha', _, oa'⟩ := (m.ob o').lst_inv
      cases e'
      obtain ⟨b', ys', e', hb', _, ob'⟩ := (m.ob o3).lst_inv
      cases e'
      exact ⟨xs', ys', _, _, SqL.of ha', SqL.of hb', List.getElem?_eq_getElem (by rw [oa'.len]; omega), List.getElem?_eq_getElem (by rw [ob'.len]; omega)⟩
    · obtain ⟨b', xs', e', ha', _, oa'⟩ := (m.ob o').lst_inv
      cases e'
      obtain ⟨b', ys', e', hb', _, ob'⟩ := (m.ob o3).lst_inv
      cases e'
      exact ⟨xs', ys', SqL.of ha', SqL.of hb', by rw [oa'.len, ob'.len]; omega⟩
    · obtain ⟨b', xs', e', ha', _, oa'⟩ := (m.ob o').lst_inv
      cases e'
      obtain ⟨b', ys', e', hb', _, ob'⟩ := (m.ob o3).lst_inv
      cases e'
      obtain ⟨t, u, w, rfl, ht, rfl, fx, fy⟩ := y
      obtain ⟨d', hd, od⟩ := oa'.get (fx _ (SqL.of ha'))
      obtain ⟨e', he, oe⟩ := ob'.get (fy _ (SqL.of hb'))
      have kt := same_upd (o := .tup [u, w]) ht
      refine ⟨kt, fun σ' ρ' Q' en' q' => ⟨t, _, rfl, SqT.of upd_same, rfl, _, _, rfl, ?_⟩⟩
      obtain ⟨ρ1, g1', g2'⟩ := hg i d' e' hd he ρ'
      exact g1' _ _ σ' u _ (en'.same kt) (od.same kt) fun σ1 en1 w1 e1 => ⟨_, _, rfl, g2' _ _ σ1 w _ en1 (oe.same kt) fun σ2 en2 w2 e2 => ⟨rfl, q' σ2 en2 (w1.trans w2) (e2.trans e1)⟩⟩
theorem Es_zipT {ta tb : TE} {z1 z2 : Bool} {g1 g2 : TG} {f : Nat → Rho → Rho} {vs : List Nat} (ha : Ep ta ρ (.tup z1 ds)) (hb : Ep tb ρ (.tup z2 es)) (hg : ∀ (i : Nat) (d e : Dt), ds[i]? = some d → es[i]? = some e → ∀ ρ, ∃ ρ1, Eg g1 d ρ ρ1 vs ∧ Eg g2 e ρ1 (f i ρ) vs) : Es (iZipA K (tCons ta (tCons tb tNil))) (gTup K 2 (gCons g1 (gCons g2 gNil))) ρ (min ds.length es.length) f vs := fun H S σ R en q =>
  ha.go en fun va H2 k o => hb.go (en.same k) fun vb H3 k3 o3 => by
    have o' := o.same k3
    obtain ⟨a, xs, rfl, ea, na, oa⟩ := o'.tup_inv
    obtain ⟨b, ys, rfl, eb, nb, ob⟩ := o3.tup_inv
    refine ⟨a, b, xs, ys, rfl, .inr ⟨ea.sq, eb.sq, q _ _ (k.trans k3) ⟨fun i H' S' m hi => ?_, fun i H' S' m hi => ?_, fun i H' S' x H'' m hi y => ?_⟩⟩⟩
    · obtain ⟨b', xs', e', ha', _, oa'⟩ := (m.ob o').tup_inv
      cases e'
      obtain ⟨b', ys', e', hb', _, ob'⟩ := (m.ob o3).tup_inv
      cases e'
      exact ⟨xs', ys', _, _, ha'.sq, hb'.sq, List.getElem?_eq_getElem (by rw [oa'.len]; omega), List.getElem?_eq_getElem (by rw [ob'.len]; omega)⟩
    · obtain ⟨b', xs', e', ha', _, oa'⟩ := (m.ob o').tup_inv
      cases e'
      obtain ⟨b', ys', e', hb', _, ob'⟩ := (m.ob o3).tup_inv
      cases e'
      exact ⟨xs', ys', ha'.sq, hb'.sq, by rw [oa'.len, ob'.len]; omega⟩
    · obtain ⟨b', xs', e', ha', _, oa'⟩ := (m.ob o').tup_inv
      cases e'
      obtain ⟨b', ys', e', hb', _, ob'⟩ := (m.ob o3).tup_inv
      cases e'
      obtain ⟨t, u, w, rfl, ht, rfl, fx, fy⟩ := y
      obtain ⟨d', hd, od⟩ := oa'.get (fx _ ha'.sq)
      obtain ⟨e', he, oe⟩ := ob'.get (fy _ hb'.sq)
      have kt := same_upd (o := .tup [u, w]) ht
      refine ⟨kt, fun σ' ρ' Q' en' q' => ⟨t, _, rfl, SqT.of upd_same, rfl, _, _, rfl, ?_⟩⟩
      obtain ⟨ρ1, g1', g2'⟩ := hg i d' e' hd he ρ'
      exact g1' _ _ σ' u _ (en'.same kt) (od.same kt) fun σ1 en1 w1 e1 => ⟨_, _, rfl, g2' _ _ σ1 w _ en1 (oe.same kt) fun σ2 en2 w2 e2 => ⟨rfl, q' σ2 en2 (w1.trans w2) (e2.trans e1)⟩⟩
/-! ### for -/
theorem Sv_for {wi : TI} {g : TG} {tb : TS} {n : Nat} {f : Nat → Rho → Rho} {vs : List Nat} (h : Es wi g ρ n f vs) (I : Nat → Rho → Prop) (h0 : I 0 ρ) (hs : ∀ i ρ', i < n → I i ρ' → Sv H0 S0 tb (f i ρ') ⟨I (i + 1), O.rt, O.nx, I (i + 1)⟩) (hd : ∀ ρ', I n ρ' → O.nx ρ') : Sv H0 S0 (tFor wi g tb) ρ O := fun H S σ D en rl kn kr kb kc =>
  h H S σ _ en fun J H2 k y => by
    have l2 := Lv.same k en.lv
    have m0 := Mv.same en.lv k
    refine ⟨fun i m σ' H' => m = n - i ∧ i ≤ n ∧ ∃ ρ' S', I i ρ' ∧ En H' S' σ' ρ' ∧ Rl H0 S0 H' S' σ' ρ' ∧ Mv H2 S H' S', ⟨_, rfl, Nat.zero_le _, ρ, S, h0, en.same k, rl.step k (Ow.refl _ _), Mv.refl l2⟩, ?_⟩
    rintro i m σ' H' ⟨rfl, hi, ρ', S', iv, en', rl', mv⟩
    by_cases lt : i < n
    · refine .inr ⟨y.go i H' S' mv lt, fun σ' H' => ∃ ρ' S', I (i + 1) ρ' ∧ En H' S' σ' ρ' ∧ Rl H0 S0 H' S' σ' ρ' ∧ Mv H2 S H' S', fun σ2 H3 z => ⟨_, by omega, rfl, lt, z⟩, fun x H'' yy => ?_⟩
      obtain ⟨kk, gg⟩ := y.yld i H' S' x H'' mv lt yy
      refine gg σ' ρ' _ en' fun σ2 en2 w2 _ => ?_
      have mv2 : Mv H2 S H'' S' := mv.trans (Mv.same en'.lv kk)
      refine hs i ρ' lt iv H'' S' σ2 _ en2 (rl'.step kk w2) (fun ρ3 H3 S3 σ3 n3 e3 r3 m3 => ⟨ρ3, S3, n3, e3, r3, mv2.trans m3⟩) kr (fun ρ3 H3 S3 σ3 n3 e3 r3 m3 => kn ρ3 H3 S3 σ3 n3 e3 r3 (m0.trans (mv2.trans m3))) (fun ρ3 H3 S3 σ3 n3 e3 r3 m3 => ⟨ρ3, S3, n3, e3, r3, mv2.trans m3⟩)
    · have e : i = n := by omega
      subst e
      exact .inl ⟨y.stop i H' S' mv (Nat.le_refl _), kn ρ' H' S' σ' (hd ρ' iv) en' rl' (m0.trans mv)⟩
/-! ### [e for ..] -/
def Ec (tt : TT) (te : TE) (ρ : Rho) (r : Option Dt) : Prop := ∃ b, Et tt ρ b ∧ (b = true → ∃ e, r = some e ∧ Ep te ρ e) ∧ (b = false → r = none)
theorem E_yes : Et tYes ρ true := fun H S σ en H1 S1 Q x q => q H1 fun _ _ z => z
theorem C_map (h : Ep te ρ d) : Ec tYes te ρ (some d) := ⟨true, E_yes, fun _ => ⟨d, rfl, h⟩, fun z => nomatch z⟩
theorem C_if {b : Bool} (ht : Et tt ρ b) (h : b = true → Ep te ρ d) : Ec tt te ρ (if b = true then some d else none) := ⟨b, ht, fun z => ⟨d, if_pos z, h z⟩, fun z => by rw [z]; rfl⟩
theorem C_eq {r r' : Option Dt} (h : Ec tt te ρ r) (e : r = r') : Ec tt te ρ r' := e ▸ h
theorem rng_succ {α : Type} (r : Nat → Option α) (i : Nat) : (List.range (i + 1)).filterMap r = (List.range i).filterMap r ++ (r i).toList := by
  rw [List.range_succ, List.filterMap_append]
  cases e : r i <;> simp [List.filterMap, e]
theorem E_lc {wi : TI} {g : TG} {n : Nat} {f : Nat → Rho → Rho} {vs : List Nat} {r : Nat → Option Dt} (h : Es wi g ρ n f vs) (hz : n ≤ 999999) (hs : ∀ i, i < n → Ec tt te (f i (wipeR ρ vs)) (r i)) : Ef (tLc wi g tt te vs) ρ ((List.range n).filterMap r) := fun H S σ Q en q =>
  h H S σ _ en fun J H2 k y => by
    intro D hD
    have l2 := Lv.same k en.lv
    have en2 := en.same k
    refine ⟨fun i m H' => m = n - i ∧ i ≤ n ∧ Made H2 S D ((List.range i).filterMap r) H', ⟨_, rfl, Nat.zero_le _, Made.nil hD⟩, ?_⟩
    rintro i m H' ⟨rfl, hi, md⟩
    have lf := md.lift l2 hD
    by_cases lt : i < n
    · refine .inr ⟨y.go i H' _ lf.mv lt, fun H' => Made H2 S D ((List.range (i + 1)).filterMap r) H', fun H3 z => ⟨_, by omega, rfl, lt, z⟩, fun x H'' yy => ?_⟩
      obtain ⟨kk, gg⟩ := y.yld i H' _ x H'' lf.mv lt yy
      refine gg _ _ _ ((en2.lift lf).wipe vs) fun σ2 e2 w2 ew => ⟨ew.trans (wipe_wipe σ vs), ?_⟩
      obtain ⟨b, hb, h1, h0⟩ := hs i lt
      refine hb.go e2 fun H3 k3 => ?_
      cases b with
      | true =>
        obtain ⟨e, er, he⟩ := h1 rfl
        refine iteT (he.go (e2.same k3) fun v H4 k4 o4 => ?_)
        have ln : ((List.range i).filterMap r).length < 1000000 := by
          have := List.length_filterMap_le r (List.range i)
          rw [List.length_range] at this
          omega
        obtain ⟨acc, e1, e3, m2⟩ := md.step hD ((kk.trans k3).trans k4) o4 ln
        refine ⟨acc, e1, e3, ?_⟩
        rw [rng_succ, er]; exact m2
      | false =>
        refine iteF ?_
        rw [rng_succ, h0 rfl]
        show Made _ _ _ (_ ++ []) _
        rw [List.append_nil]
        obtain ⟨vs', e, oc⟩ := md.acc
        exact ⟨md.same.trans (kk.trans k3), vs', k3 _ _ (kk _ _ e), oc.same (kk.trans k3)⟩
    · have e : i = n := by omega
      subst e
      obtain ⟨vs', e, oc⟩ := md.acc
      exact .inl ⟨y.stop i H' _ lf.mv (Nat.le_refl _), q D vs' H' (k.trans md.same) (none_back k hD) e oc⟩
theorem rng_fm {α β : Type} (l : List α) (r : α → Option β) (z : Nat → Option β) (h : ∀ i a, l[i]? = some a → z i = r a) : (List.range l.length).filterMap z = l.filterMap r := by
  have key : ∀ n, n ≤ l.length → (List.range n).filterMap z = (l.take n).filterMap r := by
    intro n
    induction n with
    | zero => intro _; rfl
    | succ n ih =>
      intro hn
      have e : l[n]? = some l[n] := List.getElem?_eq_getElem hn
      rw [rng_succ, ih (by omega), List.take_add_one, e, List.filterMap_append, h n _ e]
      congr 1
  rw [key _ (Nat.le_refl _), List.take_length]
/-- over a list, a tuple -/
theorem E_lcL {j : Nat} {r : Dt → Option Dt} (h : Ep tl ρ (.lst ds)) (hz : ds.length ≤ 999999) (hs : ∀ d ∈ ds, Ec tt te ((wipeR ρ [j]).set j (.d d)) (r d)) : Ef (tLc (iList K tl) (gName j) tt te [j]) ρ (ds.filterMap r) := by
  refine (E_lc (Es_list h fun i d hd ρ => (?_ : Eg _ _ _ ((fun i ρ => ρ.set j (.d (ds.getD i .non))) i ρ) _)) hz (r := fun i => r (ds.getD i .non)) fun i hi => ?_).eq (rng_fm ds r _ fun i a e => by rw [List.getD_eq_getElem?_getD, e]; rfl)
  · show Eg _ _ _ (ρ.set j (.d (ds.getD i .non))) _
    rw [List.getD_eq_getElem?_getD, hd]
    exact G_name List.mem_cons_self
  · refine hs _ ?_
    rw [List.getD_eq_getElem?_getD, List.getElem?_eq_getElem hi]
    exact List.getElem_mem _
theorem E_lcT {j : Nat} {z : Bool} {r : Dt → Option Dt} (h : Ep tl ρ (.tup z ds)) (hz : ds.length ≤ 999999) (hs : ∀ d ∈ ds, Ec tt te ((wipeR ρ [j]).set j (.d d)) (r d)) : Ef (tLc (iTup K tl) (gName j) tt te [j]) ρ (ds.filterMap r) := by
  refine (E_lc (Es_tup h fun i d hd ρ => (?_ : Eg _ _ _ ((fun i ρ => ρ.set j (.d (ds.getD i .non))) i ρ) _)) hz (r := fun i => r (ds.getD i .non)) fun i hi => ?_).eq (rng_fm ds r _ fun i a e => by rw [List.getD_eq_getElem?_getD, e]; rfl)
  · show Eg _ _ _ (ρ.set j (.d (ds.getD i .non))) _
    rw [List.getD_eq_getElem?_getD, hd]
    exact G_name List.mem_cons_self
  · refine hs _ ?_
    rw [List.getD_eq_getElem?_getD, List.getElem?_eq_getElem hi]
    exact List.getElem_mem _
theorem E_lcR {j n : Nat} {r : Nat → Option Dt} (h : Ep tl ρ (.int (n : Nat))) (hz : n ≤ 999999) (hs : ∀ i, i < n → Ec tt te ((wipeR ρ [j]).set j (.d (.int (i : Nat)))) (r i)) : Ef (tLc (iRng1 (tCons tl tNil)) (gName j) tt te [j]) ρ ((List.range n).filterMap r) :=
  E_lc (Es_rng h (by omega) (f := fun i ρ => ρ.set j (.d (.int (i : Nat)))) fun i hi ρ => G_name List.mem_cons_self) hz hs
end
end Lc

namespace Lc
open PySem PySem.Spec PyProof.Rows L2 RZ PySem.W
section
variable {ρ : Rho} {K : PySem.W.Frag} {te ta tb tl : TE} {tt tu : TT} {d e : Dt} {ds es : List Dt} {i j : Int}
theorem E_isi {nm : String} {b : Bool} (h : Ep te ρ d) (k : PySem.W.kitOne K (.type (tyName d)) (.type nm) = some b) (n : d.pl = true := by rfl) : Ep (tCB (rIsi K) (tCons te (tCons (tC (.ty nm)) tNil))) ρ (.bl b) := fun H S σ en H1 S1 Q x q =>
  h.go (en.lift x) fun v H2 k2 o => ⟨v, .ty nm, .type (tyName d), .type nm, b, rfl, .ty nm, (o.arg n).ty, k, q _ _ k2 (.bl _)⟩
theorem E_all {bs : List Bool} (h : El tl ρ (bs.map Dt.bl)) : Ep (tCB (rAll K) (tCons tl tNil)) ρ (.bl (bs.all id)) := fun H S σ en H1 S1 Q x q =>
  h H1 S1 σ _ (en.lift x) fun a vs H2 k ha oa => by
    have e := oa.bls
    subst e
    exact ⟨a, bs, rfl, SqL.of ha, q _ _ k (.bl _)⟩
theorem E_any {bs : List Bool} (h : El tl ρ (bs.map Dt.bl)) : Ep (tCB (rAny K) (tCons tl tNil)) ρ (.bl (bs.any id)) := fun H S σ en H1 S1 Q x q =>
  h H1 S1 σ _ (en.lift x) fun a vs H2 k ha oa => by
    have e := oa.bls
    subst e
    exact ⟨a, bs, rfl, SqL.of ha, q _ _ k (.bl _)⟩
theorem E_word {c : Addr} {ws : List Str} {E : XK} (h : Ep te ρ d) (hc : ∀ H, SqT K H c (ws.map V.str)) (n : d.pl = true := by rfl) : Ep (tCall (spWord K) [] E (tCons te (tCons (tC (.ref c)) tNil))) ρ (.bl (wordD d ws)) := fun H S σ en H1 S1 Q x q =>
  h.go (en.lift x) fun v H2 k2 o => by
    have e : wordV v ws = wordD d ws := by cases o <;> first | rfl | cases n
    refine ⟨v, c, ws, tyName d, rfl, hc H2, o.arg n, ?_⟩
    rw [e]; exact q _ _ k2 (.bl _)
theorem E_whole {lo hi : Int} {E : XK} (h : Ep te ρ d) (ha : Ep ta ρ (.int lo)) (hb : Ep tb ρ (.int hi)) (n : d.pl = true := by rfl) : Ep (tCall (spWhole K) [] E (tCons te (tCons ta (tCons tb tNil)))) ρ (.bl (wholeD d lo hi)) := fun H S σ en H1 S1 Q x q =>
  h.go (en.lift x) fun v H2 k2 o => ha.go ((en.lift x).same k2) fun u H3 k3 o3 => hb.go ((en.lift x).same (k2.trans k3)) fun w H4 k4 o4 => by
    rw [o3.int_inv, o4.int_inv]
    have o' := (o.same k3).same k4
    have e : wholeV v lo hi = wholeD d lo hi := by cases o' <;> first | rfl | cases n
    refine ⟨v, lo, hi, tyName d, rfl, o'.arg n, ?_⟩
    rw [e]; exact q _ _ ((k2.trans k3).trans k4) (.bl _)
/-- flat data as a value -/
def vOf : Dt → Option V
  | .non => some .non
  | .bl b => some (.bl b)
  | .int i => some (.int i)
  | .str s => some (.str s)
  | _ => none
theorem Oc.flat {H : Hp} {S : AS} {v u : V} (o : Oc H S v d) (h : vOf d = some u) : v = u := by
  cases o <;> first | exact Option.some.inj h | cases h
theorem E_eqV {u v : V} (ha : Ep ta ρ d) (hb : Ep tb ρ e) (hu : vOf d = some u := by rfl) (hv : vOf e = some v := by rfl) (sc : scal u v = true := by rfl) : Ep (tOp rEq ta tb) ρ (.bl (decide (u = v))) := fun H S σ en H1 S1 Q x q =>
  ha.go (en.lift x) fun _ H2 k o => hb.go ((en.lift x).same k) fun _ H3 k3 o3 => by
    rw [(o.same k3).flat hu, o3.flat hv]
    exact ⟨sc, q _ _ (k.trans k3) (.bl _)⟩
theorem E_neV {u v : V} (ha : Ep ta ρ d) (hb : Ep tb ρ e) (hu : vOf d = some u := by rfl) (hv : vOf e = some v := by rfl) (sc : scal u v = true := by rfl) : Ep (tOp rNe ta tb) ρ (.bl (!decide (u = v))) := fun H S σ en H1 S1 Q x q =>
  ha.go (en.lift x) fun _ H2 k o => hb.go ((en.lift x).same k) fun _ H3 k3 o3 => by
    rw [(o.same k3).flat hu, o3.flat hv]
    exact ⟨sc, q _ _ (k.trans k3) (.bl _)⟩
theorem dec_str (a b : Str) : decide (V.str a = V.str b) = decide (a = b) := by
  by_cases c : a = b
  · subst c; simp
  · rw [decide_eq_false c, decide_eq_false (fun z => c (V.str.inj z))]
theorem dec_int' (a b : Int) : decide (V.int a = V.int b) = decide (a = b) := by
  by_cases c : a = b
  · subst c; simp
  · rw [decide_eq_false c, decide_eq_false (fun z => c (V.int.inj z))]
theorem dec_bl (a b : Bool) : decide (V.bl a = V.bl b) = decide (a = b) := by
  by_cases c : a = b
  · subst c; simp
  · rw [decide_eq_false c, decide_eq_false (fun z => c (V.bl.inj z))]
theorem E_eqS {a b : Str} (ha : Ep ta ρ (.str a)) (hb : Ep tb ρ (.str b)) : Ep (tOp rEq ta tb) ρ (.bl (decide (a = b))) := E_eq (E_eqV ha hb) (by rw [dec_str])
theorem E_neS {a b : Str} (ha : Ep ta ρ (.str a)) (hb : Ep tb ρ (.str b)) : Ep (tOp rNe ta tb) ρ (.bl (!decide (a = b))) := E_eq (E_neV ha hb) (by rw [dec_str])
theorem E_eqI (ha : Ep ta ρ (.int i)) (hb : Ep tb ρ (.int j)) : Ep (tOp rEq ta tb) ρ (.bl (decide (i = j))) := E_eq (E_eqV ha hb) (by rw [dec_int'])
theorem E_neI (ha : Ep ta ρ (.int i)) (hb : Ep tb ρ (.int j)) : Ep (tOp rNe ta tb) ρ (.bl (!decide (i = j))) := E_eq (E_neV ha hb) (by rw [dec_int'])
theorem E_eqB {a b : Bool} (ha : Ep ta ρ (.bl a)) (hb : Ep tb ρ (.bl b)) : Ep (tOp rEq ta tb) ρ (.bl (decide (a = b))) := E_eq (E_eqV ha hb) (by rw [dec_bl])
theorem E_neB {a b : Bool} (ha : Ep ta ρ (.bl a)) (hb : Ep tb ρ (.bl b)) : Ep (tOp rNe ta tb) ρ (.bl (!decide (a = b))) := E_eq (E_neV ha hb) (by rw [dec_bl])
/-- s in a tuple, a list of texts -/
theorem E_inS {neg : Bool} {a : Str} {z : Bool} {ws : List Str} (ha : Ep ta ρ (.str a)) (hb : Ep tb ρ (.tup z (ws.map Dt.str))) : Ep (tOp (rIn K neg) ta tb) ρ (.bl (if neg = true then !decide (a ∈ ws) else decide (a ∈ ws))) := fun H S σ en H1 S1 Q x q =>
  ha.go (en.lift x) fun _ H2 k o => hb.go ((en.lift x).same k) fun _ H3 k3 o3 => by
    rw [(o.same k3).str_inv]
    obtain ⟨b, xs, rfl, eb, nb, ob⟩ := o3.tup_inv
    have ex := ob.strs
    subst ex
    refine ⟨b, _, rfl, .inr eb.sq, rfl, all_flat_str ws, ?_⟩
    rw [inV_str]
    exact q _ _ (k.trans k3) (.bl _)
theorem E_inSL {neg : Bool} {a : Str} {ws : List Str} (ha : Ep ta ρ (.str a)) (hb : El tb ρ (ws.map Dt.str)) : Ep (tOp (rIn K neg) ta tb) ρ (.bl (if neg = true then !decide (a ∈ ws) else decide (a ∈ ws))) := fun H S σ en H1 S1 Q x q =>
  ha.go (en.lift x) fun _ H2 k o => hb H2 S1 σ _ ((en.lift x).same k) fun b xs H3 k3 eb ob => by
    rw [(o.same k3).str_inv]
    have ex := ob.strs
    subst ex
    refine ⟨b, _, rfl, .inl (SqL.of eb), rfl, all_flat_str ws, ?_⟩
    rw [inV_str]
    exact q _ _ (k.trans k3) (.bl _)
theorem E_inIL {neg : Bool} {ns : List Int} (ha : Ep ta ρ (.int i)) (hb : El tb ρ (ns.map Dt.int)) : Ep (tOp (rIn K neg) ta tb) ρ (.bl (if neg = true then !decide (i ∈ ns) else decide (i ∈ ns))) := fun H S σ en H1 S1 Q x q =>
  ha.go (en.lift x) fun _ H2 k o => hb H2 S1 σ _ ((en.lift x).same k) fun b xs H3 k3 eb ob => by
    rw [(o.same k3).int_inv]
    have ex := ob.ints
    subst ex
    refine ⟨b, _, rfl, .inl (SqL.of eb), rfl, flat_ints ns, ?_⟩
    rw [inV_ints]
    exact q _ _ (k.trans k3) (.bl _)
/-- t[i], l[i], i not below nought -/
theorem E_ixTi {z : Bool} (ha : Ep ta ρ (.tup z ds)) (hb : Ep tb ρ (.int i)) (h0 : 0 ≤ i) (hd : ds[i.toNat]? = some d) : Ep (tOp (rIxT K) ta tb) ρ d := E_ixT (n := i.toNat) ha (E_eq hb (by congr 1; omega)) hd
theorem E_ixLi (ha : El ta ρ ds) (hb : Ep tb ρ (.int i)) (h0 : 0 ≤ i) (hd : ds[i.toNat]? = some d) : Ep (tOp (rIxL K) ta tb) ρ d := E_ixL (n := i.toNat) ha (E_eq hb (by congr 1; omega)) hd
theorem E_mod (ha : Ep ta ρ (.int i)) (hb : Ep tb ρ (.int j)) (h : 0 < j) : Ep (tOp (rI (fun _ j => (0 : Int) < j) fun i j => .int (i % j)) ta tb) ρ (.int (i % j)) := fun H S σ en H1 S1 Q x q =>
  ha.go (en.lift x) fun _ H2 k o => hb.go ((en.lift x).same k) fun _ H3 k3 o3 => by
    rw [(o.same k3).int_inv, o3.int_inv]
    exact ⟨i, j, rfl, rfl, h, q _ _ (k.trans k3) (.int _)⟩
theorem E_chain {f g : Int → Int → Bool} {tc : TE} {k : Int} (ha : Ep ta ρ (.int i)) (hb : Ep tb ρ (.int j)) (hc : Ep tc ρ (.int k)) : Ep (tChain (rI0 fun i j => .bl (f i j)) (rI0 fun i j => .bl (g i j)) ta tb tc) ρ (.bl (f i j && g j k)) := fun H S σ en H1 S1 Q x q =>
  ha.go (en.lift x) fun _ H2 k2 o => hb.go ((en.lift x).same k2) fun _ H3 k3 o3 => by
    rw [(o.same k3).int_inv, o3.int_inv]
    refine ⟨i, j, rfl, rfl, f i j, rfl, ?_⟩
    cases c : f i j with
    | false => exact iteF (q _ _ (k2.trans k3) (by rw [c, Bool.false_and]; exact .bl _))
    | true => exact iteT (hc.go ((en.lift x).same (k2.trans k3)) fun _ H4 k4 o4 => by
        rw [o4.int_inv]
        exact ⟨j, k, rfl, rfl, q _ _ ((k2.trans k3).trans k4) (by rw [c, Bool.true_and]; exact .bl _)⟩)
/-- a def that makes a datum of typed things -/
def spTy {α : Type} (enc : α → List Dt) (pre : α → Prop) (F : α → Dt) : Sp := fun vs H Q _ => ∃ (S : AS) (a : α), Ocs H S vs (enc a) ∧ Lv H S ∧ pre a ∧ ∀ v H', Same H H' → Oc H' S v (F a) → Q v H'
theorem E_callT {α : Type} {enc : α → List Dt} {pre : α → Prop} {F : α → Dt} {E : XK} {t : TA} (a : α) (h : Ea t ρ (enc a)) (hp : pre a) : Ep (tCall (spTy enc pre F) [] E t) ρ (F a) := fun H S σ en => D_fn (h H S σ en) fun H1 S1 vs Q x o q => ⟨S1, a, o, x.live, hp, fun v H' k o => q v H' k o⟩
end
theorem E_intE {ρ : Rho} {i : Int} {d : Dt} (h : Dt.int i = d) : Ep (tC (.int i)) ρ d := h ▸ E_int i
theorem E_strE {ρ : Rho} {i : Str} {d : Dt} (h : Dt.str i = d) : Ep (tC (.str i)) ρ d := h ▸ E_str i
theorem E_blE {ρ : Rho} {i : Bool} {d : Dt} (h : Dt.bl i = d) : Ep (tC (.bl i)) ρ d := h ▸ E_bl i
theorem E_nonE {ρ : Rho} {d : Dt} (h : Dt.non = d) : Ep (tC .non) ρ d := h ▸ E_non
/-! ### the start of a body -/
theorem En.nil {H : Hp} {S : AS} (l : Lv H S) : En H S [] [] where
  len := rfl
  lv := l
  dat h := by simp at h
  own h := by simp at h
  val h := by simp at h
  inj h := by simp at h
theorem En.cons {H : Hp} {S : AS} {σ : L2.St} {ρ : Rho} {v : V} {d : Dt} (o : Oc H S v d) (e : En H S σ ρ) : En H S (some v :: σ) (.d d :: ρ) where
  len := congrArg Nat.succ e.len
  lv := e.lv
  dat {i d'} h := by
    cases i with
    | zero => cases h; exact ⟨v, rfl, o⟩
    | succ i => exact e.dat (i := i) h
  own {i d'} h := by
    cases i with
    | zero => cases h
    | succ i => exact e.own (i := i) h
  val {i u} h := by
    cases i with
    | zero => cases h
    | succ i => exact e.val (i := i) h
  inj {i j ds es a} h1 h2 g1 g2 := by
    cases i with
    | zero => cases h1
    | succ i =>
      cases j with
      | zero => cases h2
      | succ j => exact congrArg Nat.succ (e.inj (i := i) (j := j) h1 h2 g1 g2)
theorem En.no {H : Hp} {S : AS} {σ : L2.St} {ρ : Rho} {v : Option V} (e : En H S σ ρ) : En H S (v :: σ) (.no :: ρ) where
  len := congrArg Nat.succ e.len
  lv := e.lv
  dat {i d'} h := by
    cases i with
    | zero => cases h
    | succ i => exact e.dat (i := i) h
  own {i d'} h := by
    cases i with
    | zero => cases h
    | succ i => exact e.own (i := i) h
  val {i u} h := by
    cases i with
    | zero => cases h
    | succ i => exact e.val (i := i) h
  inj {i j ds es a} h1 h2 g1 g2 := by
    cases i with
    | zero => cases h1
    | succ i =>
      cases j with
      | zero => cases h2
      | succ j => exact congrArg Nat.succ (e.inj (i := i) (j := j) h1 h2 g1 g2)
theorem En.vl {H : Hp} {S : AS} {σ : L2.St} {ρ : Rho} {v : V} (e : En H S σ ρ) : En H S (some v :: σ) (.v v :: ρ) where
  len := congrArg Nat.succ e.len
  lv := e.lv
  dat {i d'} h := by
    cases i with
    | zero => cases h
    | succ i => exact e.dat (i := i) h
  own {i d'} h := by
    cases i with
    | zero => cases h
    | succ i => exact e.own (i := i) h
  val {i u} h := by
    cases i with
    | zero => cases h; rfl
    | succ i => exact e.val (i := i) h
  inj {i j ds es a} h1 h2 g1 g2 := by
    cases i with
    | zero => cases h1
    | succ i =>
      cases j with
      | zero => cases h2
      | succ j => exact congrArg Nat.succ (e.inj (i := i) (j := j) h1 h2 g1 g2)
theorem En.nos {H : Hp} {S : AS} (l : Lv H S) : ∀ n : Nat, En H S (List.replicate n none) (List.replicate n .no)
  | 0 => En.nil l
  | n + 1 => (En.nos l n).no
theorem En.at7 {H : Hp} {S : AS} {σ : L2.St} {v : V} {ρ : Rho} (e : En H S σ (.v v :: ρ)) : ∃ τ, σ = some v :: τ ∧ τ.length = ρ.length := by
  have h := e.val (i := 0) (u := v) rfl
  have l := e.len
  cases σ with
  | nil => simp at h
  | cons x τ =>
    have h2 : x = some v := by simpa using h
    subst h2
    exact ⟨τ, rfl, by simpa using l⟩
theorem no_own : ∀ (ds : List Dt) (n i : Nat) (es : List Dt), (ds.map Sl.d ++ List.replicate n Sl.no)[i]? ≠ some (.o es)
  | [], n, i, es => fun h => by
    rw [List.map_nil, List.nil_append, List.getElem?_replicate] at h
    split at h <;> cases h
  | d :: r, n, 0, es => fun h => by cases h
  | d :: r, n, i + 1, es => no_own r n i es
/-- the arguments, then free slots -/
theorem En.start {H : Hp} {S : AS} (l : Lv H S) : ∀ {vs : List V} {ds : List Dt}, Ocs H S vs ds → ∀ n : Nat, En H S (vs.map some ++ List.replicate n none) (ds.map Sl.d ++ List.replicate n .no)
  | _, _, .nil, n => En.nos l n
  | _, _, .cons o t, n => (En.start l t n).cons o
/-- the slots at the entry -/
def rho (N : List Str) (ds : List Dt) : Rho := ds.map Sl.d ++ List.replicate (N.length - ds.length) .no
theorem En.fn {H : Hp} {S : AS} {N : List Str} {vs : List V} {ds : List Dt} (l : Lv H S) (o : Ocs H S vs ds) : En H S (L2.start N vs) (rho N ds) := by
  unfold L2.start rho
  rw [o.len]
  exact En.start l o _
theorem fn_body {H : Hp} {S : AS} {N : List Str} {vs : List V} {ds : List Dt} {ts : TS} {d : Dt} {D : Ends} (l : Lv H S) (o : Ocs H S vs ds) (h : Sv H S ts (rho N ds) ⟨fun _ => False, fun e => e = d, fun _ => False, fun _ => False⟩) (q : ∀ v H', Same H H' → Oc H' S v d → D.rt v H') : ts D (L2.start N vs) H :=
  fn_go (En.fn l o) (no_own _ _) h q
theorem fn_bodyR {H : Hp} {S : AS} {N : List Str} {vs : List V} {ds : List Dt} {ts : TS} {D : Ends} (R : Dt → Prop) (l : Lv H S) (o : Ocs H S vs ds) (h : Sv H S ts (rho N ds) ⟨fun _ => False, R, fun _ => False, fun _ => False⟩) (q : ∀ d v H', R d → Same H H' → Oc H' S v d → D.rt v H') : ts D (L2.start N vs) H :=
  h H S _ D (En.fn l o) (Rl.refl l (no_own _ _)) (fun _ _ _ _ z => z.elim) (fun e v H' z k o => q e v H' z k o) (fun _ _ _ _ z => z.elim) (fun _ _ _ _ z => z.elim)
theorem fn_bodyN {H : Hp} {S : AS} {N : List Str} {vs : List V} {ds : List Dt} {ts : TS} {D : Ends} (l : Lv H S) (o : Ocs H S vs ds) (h : Sv H S ts (rho N ds) ⟨fun _ => True, fun e => e = .non, fun _ => False, fun _ => False⟩) (q : ∀ v H', Same H H' → Oc H' S v .non → D.rt v H') (qn : ∀ σ' H', Same H H' → D.nx σ' H') : ts D (L2.start N vs) H :=
  h H S _ D (En.fn l o) (Rl.refl l (no_own _ _)) (fun _ _ _ _ _ _ r _ => qn _ _ r.same) (fun e v H' z k o => q v H' k (z ▸ o)) (fun _ _ _ _ z => z.elim) (fun _ _ _ _ z => z.elim)
/-! ### slices of lists, items put -/
section
variable {H0 : Hp} {S0 : AS} {ρ : Rho} {K : PySem.W.Frag} {te ta tb tl th ti : TE} {d : Dt} {ds : List Dt} {O : Eo} {ts tu : TS}
theorem slL_go {H : Hp} {S : AS} {a : Addr} {xs : List V} {lo : Nat} {hi : Option Nat} {l : Option Int} {Q : VK} (hl : l = none ∧ lo = 0 ∨ l = some (lo : Int)) (ea : H a = some (.lst xs)) (oa : Ocs H S xs ds) (q : ∀ p ys H2, Same H H2 → H p = none → H2 p = some (.lst ys) → Ocs H2 (And1 S p) ys (sub3 ds lo hi) → Q (.ref p) H2) : rSlL K (.ref a) l (hi.map fun k => ((k : Nat) : Int)) H Q := by
  have n1 := oa.len
  have e1 : HT.sIx xs.length 0 l = min lo xs.length := by
    rcases hl with ⟨rfl, rfl⟩ | rfl
    · rw [HT.sIx_none]; omega
    · exact HT.sIx_nat _ _ _
  have e2 : HT.sIx xs.length xs.length (hi.map fun k => ((k : Nat) : Int)) = hiN xs.length hi := by
    cases hi with
    | none => rfl
    | some k => exact HT.sIx_nat _ _ _
  have oc : Ocs H S (cutV xs l (hi.map fun k => ((k : Nat) : Int))) (sub3 ds lo hi) := by
    have h0 := ocs_take (hiN xs.length hi - min lo xs.length) (ocs_drop (min lo xs.length) oa)
    have e3 : cutV xs l (hi.map fun k => ((k : Nat) : Int)) = (xs.drop (min lo xs.length)).take (hiN xs.length hi - min lo xs.length) := by
      unfold cutV
      rw [e1, e2]
    have e4 : (ds.drop (min lo xs.length)).take (hiN xs.length hi - min lo xs.length) = sub3 ds lo hi := by
      rw [n1]
      have d1 : ds.drop (min lo ds.length) = ds.drop lo := by
        by_cases c : lo ≤ ds.length
        · rw [Nat.min_eq_left c]
        · rw [Nat.min_eq_right (by omega), List.drop_length, List.drop_eq_nil_of_le (by omega)]
      rw [d1]
      cases hi with
      | none => exact List.take_of_length_le (by rw [List.length_drop]; show ds.length - lo ≤ ds.length - min lo ds.length; omega)
      | some k =>
        show (ds.drop lo).take (min k ds.length - min lo ds.length) = (ds.drop lo).take (k - lo)
        by_cases c : k ≤ ds.length
        · by_cases c2 : lo ≤ ds.length
          · rw [Nat.min_eq_left c, Nat.min_eq_left c2]
          · rw [List.drop_eq_nil_of_le (by omega), List.take_nil, List.take_nil]
        · rw [List.take_of_length_le (by rw [List.length_drop]; omega), List.take_of_length_le (by rw [List.length_drop]; omega)]
    rw [e3, ← e4]; exact h0
  exact ⟨a, xs, rfl, SqL.of ea, fun p hp => q p _ _ (same_upd hp) hp upd_same ((oc.add hp).same (same_upd hp))⟩
theorem E_slLTo {k : Int} (h : El te ρ ds) (hh : Ep th ρ (.int k)) (h0 : 0 ≤ k) : Ef (tSl (rSlL K) te tNoPart (tPart th)) ρ (ds.take k.toNat) := fun H S σ Q en q =>
  h H S σ _ en fun a xs H2 k2 ea oa => hh.go (en.same k2) fun u H3 k3 o3 => by
    have e := o3.int_inv
    subst e
    refine ⟨_, rfl, ?_⟩
    have ek : some k = (some k.toNat).map fun k => ((k : Nat) : Int) := by show some k = some ((k.toNat : Nat) : Int); congr 1; omega
    rw [ek]
    exact slL_go (lo := 0) (hi := some k.toNat) (.inl ⟨rfl, rfl⟩) (k3 _ _ ea) (oa.same k3) fun p ys H4 k4 hp hy oc => q p ys H4 ((k2.trans k3).trans k4) (none_back (k2.trans k3) hp) hy oc
theorem E_slLFrom {k : Int} (h : El te ρ ds) (hl : Ep tl ρ (.int k)) (h0 : 0 ≤ k) : Ef (tSl (rSlL K) te (tPart tl) tNoPart) ρ (ds.drop k.toNat) := fun H S σ Q en q =>
  h H S σ _ en fun a xs H2 k2 ea oa => hl.go (en.same k2) fun u H3 k3 o3 => by
    have e := o3.int_inv
    subst e
    refine ⟨_, rfl, ?_⟩
    exact slL_go (lo := k.toNat) (hi := none) (.inr (by congr 1; omega)) (k3 _ _ ea) (oa.same k3) fun p ys H4 k4 hp hy oc => q p ys H4 ((k2.trans k3).trans k4) (none_back (k2.trans k3) hp) hy oc
theorem E_slLMid {k m : Int} (h : El te ρ ds) (hl : Ep tl ρ (.int k)) (hh : Ep th ρ (.int m)) (h0 : 0 ≤ k) (h1 : 0 ≤ m) : Ef (tSl (rSlL K) te (tPart tl) (tPart th)) ρ ((ds.drop k.toNat).take (m.toNat - k.toNat)) := fun H S σ Q en q =>
  h H S σ _ en fun a xs H2 k2 ea oa => hl.go (en.same k2) fun u H3 k3 o3 => by
    have e := o3.int_inv
    subst e
    refine ⟨_, rfl, hh.go (en.same (k2.trans k3)) fun u H4 k4 o4 => ?_⟩
    have e := o4.int_inv
    subst e
    refine ⟨_, rfl, ?_⟩
    have ek : some m = (some m.toNat).map fun k => ((k : Nat) : Int) := by show some m = some ((m.toNat : Nat) : Int); congr 1; omega
    rw [ek]
    exact slL_go (lo := k.toNat) (hi := some m.toNat) (.inr (by congr 1; omega)) (k4 _ _ (k3 _ _ ea)) ((oa.same k3).same k4) fun p ys H5 k5 hp hy oc => q p ys H5 (((k2.trans k3).trans k4).trans k5) (none_back ((k2.trans k3).trans k4) hp) hy oc
theorem Ocs.setAt {H : Hp} {S : AS} {v : V} {d : Dt} : ∀ {vs : List V} {ds : List Dt} (n : Nat), Ocs H S vs ds → Oc H S v d → Ocs H S (vs.set n v) (ds.set n d)
  | _, _, _, .nil, _ => .nil
  | _, _, 0, .cons h t, o => .cons o t
  | _, _, n + 1, .cons h t, o => .cons h (Ocs.setAt n t o)
/-- xs[k] = e -/
theorem Sv_put {j : Nat} {k : Int} (hj : ρ[j]? = some (.o ds)) (h : Ep te ρ d) (hk : Ep ti ρ (.int k)) (h0 : 0 ≤ k) (h1 : k.toNat < ds.length) (n : O.nx (ρ.set j (.o (ds.set k.toNat d)))) : Sv H0 S0 (tAsg te (gSub (tVar j) ti rSetL)) ρ O := fun H S σ D en rl kn kr kb kc =>
  h.go en fun v H2 k2 o => by
    obtain ⟨a, vs, ha, sa, hv, oc⟩ := (en.same k2).own hj
    refine ⟨_, ha, hk.go (en.same k2) fun u H3 k3 o3 => ?_⟩
    have e := o3.int_inv
    subst e
    have k23 := k2.trans k3
    refine ⟨a, vs, k, k.toNat, rfl, rfl, k3 _ _ hv, ?_, ?_⟩
    · show (if 0 ≤ k then (if k < (vs.length : Nat) then some k.toNat else none) else _) = _
      rw [if_pos h0, if_pos (by rw [oc.len]; omega)]
    have e2 := (en.same k23).put hj ha ((oc.same k3).setAt k.toNat (o.same k3))
    refine kn _ _ _ _ n e2 ⟨fun b u hb => ?_, rl.sub, rl.lv0, fun {i ds' b} h g => ?_⟩ ⟨fun o => (o.same k23).put sa, e2.lv⟩
    · rw [upd_ne (fun z => by rw [z, rl.fresh hj ha] at hb; cases hb)]
      exact k23 _ _ (rl.same _ _ hb)
    · rcases sl_set h with ⟨rfl, z⟩ | ⟨ne, h⟩
      · exact rl.fresh hj g
      · exact rl.fresh h g
end
/-! ### rules with the written part by its name -/
theorem isiK {X : Cx} (K : PySem.W.Frag) (h : X.K = K := by rfl) : CallR X (.builtin "isinstance") (rIsi K) := h ▸ call_isi
theorem lenK {X : Cx} (K : PySem.W.Frag) (h : X.K = K := by rfl) : CallR X (.builtin "len") (fun xs H Q => ∃ p ys, xs = [.ref p] ∧ (SqL K H p ys ∨ SqT K H p ys) ∧ Q (.int ys.length) H) := h ▸ call_len_seq
theorem pe_fldK {X : Cx} (K : PySem.W.Frag) {e : Expr} {f : Str} {pos : Pos} {ta : TE} (he : PE X e ta) (hb : attributeBase e f X.env (eval e X.env) = eval e X.env) (h : X.K = K := by rfl) : PE X (.Attribute e f pos) (tFld K ta f) := h ▸ pe_fld he hb
end Lc

namespace Lc
open PySem PySem.Spec PyProof.Rows L2 RZ PySem.W
/-! ### a, .., *rest = a tuple -/
section
variable {prog : Program} {w : World} {A : Around} {E : Value → Shared → Prop} {s : Shared}
theorem walks_tupleFrom (hh : A.handled = none) (I ax : Addr) (hne : ax ≠ I) (items : Array Value) (k : Nat) (hk : k ≤ items.size) :
    Walks prog w A I [I, ax] [I] (items.size - k) (fun i v => items[k + i]? = some v) (fun i h => h.IsTupleIter I ax (k + i) ∧ h.IsTuple ax items) where
  sub := (Walks.tuple (prog := prog) (w := w) hh I ax hne items).sub
  frame := fun i h h' st kk => (Walks.tuple (prog := prog) (w := w) hh I ax hne items).frame (k + i) h h' st kk
  item := fun i s Q E hi st hQ => (Walks.tuple (prog := prog) (w := w) hh I ax hne items).item (k + i) s Q E (by omega) st fun v h' tk p st' kk => hQ v h' tk p st' kk
  done := fun s Q E st hQ => (Walks.tuple (prog := prog) (w := w) hh I ax hne items).done s Q E (by rw [show k + (items.size - k) = items.size by omega] at st; exact st) hQ
  self := fun i s Q E st hQ => (Walks.tuple (prog := prog) (w := w) hh I ax hne items).self (k + i) s Q E st hQ
theorem unpackItems_star {t : Addr} {items : Array Value} {k : Nat} {Q : List Value → Shared → Prop} (hh : A.handled = none) (ht : IsTup s.heap t items) (hk : k ≤ items.size) (hz : items.size ≤ sizeLine)
    (hQ : ∀ (h' : Heap) (tk : Nat), (∀ b o, s.heap.get? b = some o → h'.get? b = some o) → Q (items.toList.take k ++ [.ref h'.objs.size]) { s with heap := h'.push { cls := .type "list", data := .seq (items.toList.drop k).toArray }, toks := tk }) :
    wpAny (model prog w) A (unpackItems (.ref t) (k + 1) (some k)) Q E s := by
  have hlt : t ≠ s.heap.objs.size := by obtain ⟨o, ho, _⟩ := ht; exact Nat.ne_of_lt (Heap.lt_size ho)
  unfold unpackItems
  refine wpAny_bind ?_
  unfold notIterableAtAll
  refine wpAny_bind (wpAny_specialOf ht.typeIs PyProof.Rows.slot_tuple_iter.lookup ?_)
  refine wpAny_pure ?_
  simp only [Bool.false_eq_true, if_false]
  refine wpAny_bind (wpAny_holding (iter_tuple ht ?_))
  refine wpAny_bind (wpAny_holding (draw_tuple hlt k 0 _ _ ⟨_, Heap.get?_push_size _ rfl, rfl, rfl⟩ (ht.push _) (by omega) fun h₁ hit₁ hs₁ => ?_))
  rw [List.drop_zero]
  have hl : (items.toList.take k).length = k := by rw [List.length_take, Array.length_toList]; omega
  rw [if_neg (by rw [hl]; omega)]
  have ht₁ : IsTup h₁ t items := (ht.push _).extBut hs₁.extBut hlt
  rw [Nat.zero_add] at hit₁
  have sz1 : s.heap.objs.size < h₁.objs.size := by obtain ⟨o, ho, _⟩ := hit₁; exact Heap.lt_size ho
  refine wpAny_bind (wpAny_holding ?_)
  refine wpAny_collect_iter (T := "tuple_iterator") (.inr (.inr (.inr rfl))) (walks_tupleFrom (by first | exact hh | simpa using hh) s.heap.objs.size t hlt items k hk).toS (fun i s' st => st.1.typeIs) ⟨hit₁, ht₁⟩ (fun b hb => ?_) (by simp) (fun s' acc mv it => ?_) (by omega)
  · have e : b = s.heap.objs.size ∨ b = t := by simpa using hb
    rcases e with rfl | rfl
    · exact sz1
    · obtain ⟨o, ho, _⟩ := ht₁; exact Heap.lt_size ho
  obtain ⟨hp', g', d', tk', os'⟩ := s'
  obtain ⟨m1, m2, m3, m4, m5⟩ := mv
  dsimp only at m1 m2 m3 m4 m5
  subst m2 m3 m4
  have eacc : acc.toList = items.toList.drop k := by
    apply List.ext_getElem?
    intro j
    by_cases hj : j < items.size - k
    · have hj2 : j < acc.size := by rw [it.1]; exact hj
      have h1 : acc[j]? = some acc[j] := Array.getElem?_eq_getElem hj2
      have h2 := it.2 j _ h1
      rw [Array.getElem?_toList, h1, List.getElem?_drop, Array.getElem?_toList, h2]
    · rw [List.getElem?_eq_none (by rw [Array.length_toList, it.1]; omega), List.getElem?_eq_none (by rw [List.length_drop, Array.length_toList]; omega)]
  have la : (items.toList.drop k).length = items.size - k := by rw [List.length_drop, Array.length_toList]
  rw [eacc]
  have e0 : k + 1 - 1 - k = 0 := by omega
  simp only [e0, Nat.not_lt_zero, if_false, Nat.sub_zero, List.take_length, List.drop_length, List.append_nil]
  refine wpAny_bind (wpAny_newList ?_ (by rw [la]; omega))
  have keep : ∀ b o, s.heap.get? b = some o → hp'.get? b = some o := fun b o e => by
    have nb : b ≠ s.heap.objs.size := Nat.ne_of_lt (Heap.lt_size e)
    exact m1 b o (by simpa using nb) (hs₁.extBut b o nb (Heap.get?_push_of_some _ e))
  exact wpAny_pure (hQ hp' tk' keep)
theorem unpack_star {t : Addr} {items : Array Value} {targets : List (Bool × (Value → Sem Unit))} {k : Nat} {Q : Unit → Shared → Prop} (hh : A.handled = none) (ht : IsTup s.heap t items) (hk : k ≤ items.size) (hz : items.size ≤ sizeLine)
    (hn : targets.length = k + 1) (hstar : targets.findIdx? (·.1) = some k)
    (h : ∀ (h' : Heap) (tk : Nat), (∀ b o, s.heap.get? b = some o → h'.get? b = some o) → wpAny (model prog w) A (assignInOrder (targets.map (·.2)) (items.toList.take k ++ [.ref h'.objs.size])) Q E { s with heap := h'.push { cls := .type "list", data := .seq (items.toList.drop k).toArray }, toks := tk }) :
    wpAny (model prog w) A (unpack (.ref t) targets) Q E s := by
  unfold unpack
  rw [hn, hstar]
  exact wpAny_bind (wpAny_holding (unpackItems_star hh ht hk hz h))
end
/-- a, .., *rest: k names ahead of the star -/
def gStar (K : PySem.W.Frag) (k : Nat) (t : TGs) : TG := fun v σ H Q => ∃ a xs, v = .ref a ∧ SqT K H a xs ∧ k ≤ xs.length ∧ ∀ p, H p = none → t (xs.take k ++ [.ref p]) σ (upd H p (.lst (xs.drop k))) Q
theorem vals_append {xs ys : List V} {us ws : List Value} (h : Vals xs us) (g : Vals ys ws) : Vals (xs ++ ys) (us ++ ws) := h.append g
section
variable {X : Cx} {pos : Pos}
theorem pgs_star {e : Expr} {es : List Expr} {p : Pos} {t : TG} {u : TGs} (h1 : PG X e t) (h2 : PGs X es u)
    (hs : (assignEach (.Starred e p :: es) X.env).map (·.2) = assign e X.env :: (assignEach es X.env).map (·.2) := by rfl) : PGs X (.Starred e p :: es) (gCons t u) := by
  refine ⟨fun pins s σ H vs us Q I r h => ?_⟩
  obtain ⟨v, vr, e1, h⟩ := h
  subst e1
  cases r with
  | cons r rr =>
    rw [hs]
    refine assignInOrder_cons (thn (h1.run pins s σ H _ _ _ I r h) fun _ s1 ⟨σ1, H1, I1, q1⟩ => ?_)
    exact h2.run pins s1 σ1 H1 _ _ Q I1 rr q1
theorem pg_star {es : List Expr} {c : Nat} {t : TGs} {k : Nat} (hc : X.calm = true) (h : PGs X es t)
    (hn : (assignEach es X.env).length = k + 1 := by rfl) (hst : (assignEach es X.env).findIdx? (·.1) = some k := by rfl) : PG X (.Tuple es c pos) (gStar X.K k t) := by
  refine ⟨fun pins s σ H v u Q I r hw => ?_⟩
  obtain ⟨a, xs, e1, hq, hl, hw⟩ := hw
  subst e1
  cases r
  obtain ⟨its, rv, ht, hz⟩ := I.tuple hq
  have lx := rv.length
  rw [PyProof.Rows.assign_Tuple]
  refine wpAny_bind (wpAny_standAt (unpack_star (I.ok.hd hc) ht (by simpa [← lx] using hl) (by simpa [← lx] using hz) hn hst fun h' tk kk => ?_))
  have I1 : Inv X pins σ H { s with heap := h', toks := tk } := I.kept (t' := tk) kk
  have hf : H h'.objs.size = none := I1.hok.fresh (Nat.le_refl _)
  have I2 : Inv X pins σ (upd H h'.objs.size (.lst (xs.drop k))) { s with heap := h'.push { cls := .type "list", data := .seq (its.drop k).toArray }, toks := tk } :=
    I1.laid (t' := tk) (fun b u e => Heap.get?_push_of_some _ e) (Nat.le_refl _) ⟨by rw [List.length_drop]; omega, its.drop k, 0, rv.drop k, Heap.get?_push_size _ rfl⟩
  exact h.run pins _ σ _ _ _ Q I2 (vals_append (rv.take k) (Paired.cons (show RelV (.ref h'.objs.size) (.ref h'.objs.size) from rfl) .nil)) (hw _ hf)
end
section
variable {H0 : Hp} {S0 : AS} {ρ : Rho} {K : PySem.W.Frag} {te ta tb : TE} {tt tu' : TT} {d : Dt} {ds es : List Dt} {O : Eo} {ts tu : TS}
theorem Sv_star {gs : TGs} {k : Nat} {z : Bool} {vs : List Nat} {ρ1 : Rho} (h : Ep te ρ (.tup z ds)) (hk : k ≤ ds.length) (hg : Egs gs (ds.take k ++ [.lst (ds.drop k)]) ρ ρ1 vs) (n : O.nx ρ1) : Sv H0 S0 (tAsg te (gStar K k gs)) ρ O := fun H S σ D en rl kn kr kb kc =>
  h.go en fun v H2 k2 o => by
    obtain ⟨a, xs, rfl, ea, na, oa⟩ := o.tup_inv
    refine ⟨a, xs, rfl, ea.sq, by rw [oa.len]; exact hk, fun p hp => ?_⟩
    have kp := same_upd (o := .lst (xs.drop k)) hp
    have kk := k2.trans kp
    refine hg _ S σ _ _ (en.same kk) ((ocs_take k (oa.same kp)).append (.cons (.lst upd_same (Lv.out (Lv.same k2 en.lv) hp) (ocs_drop k (oa.same kp))) .nil)) fun σ' en' w _ => kn _ _ _ _ n en' (rl.step kk w) (Mv.same en.lv kk)
theorem Sv_starT {gs : TGs} {k : Nat} {z : Bool} {vs : List Nat} {ρ1 : Rho} (h : Ep te ρ (.tup z ds)) (hk : k ≤ ds.length) (hg : Egs gs (ds.take k ++ [.lst (ds.drop k)]) ρ ρ1 vs) (h2 : Sv H0 S0 tu ρ1 O) : Sv H0 S0 (tSeq (tAsg te (gStar K k gs)) tu) ρ O := Sv_then (Sv_star h hk hg rfl) h2
/-! ### t * k, without a dict -/
def rRepB (K : PySem.W.Frag) : R2 := fun x y H Q => ∃ l k xs, x = .ref l ∧ y = .int k ∧ SqT K H l xs ∧ xs ≠ [] ∧ 1 ≤ k ∧ k ≤ 1000 ∧ xs.length ≤ 1000 ∧ (k = 1 → Q (.ref l) H) ∧ (2 ≤ k → ∀ p H2, H p = none → Same H H2 → Tp H2 p true (List.replicate k.toNat xs).flatten → Q (.ref p) H2)
theorem op_repB {X : Cx} : OpR X (binaryOp .Mult) (rRepB X.K) := by
  intro pins s σ H x y v u Q I rx ry h
  obtain ⟨l, k, xs, rfl, rfl, hT, hne, h1, h2, hz, q1, q2⟩ := h
  by_cases hk : k = 1
  · subst hk
    cases rx
    obtain ⟨t, rfl⟩ := ry
    obtain ⟨its, r, ⟨⟨cls, dd, data, sl⟩, ho, hc, n, hd⟩, hs⟩ := I.tuple hT
    simp only at hc hd
    subst hc hd
    refine wpAny_binaryOp_repeat_ref (T := "tuple") (U := "int") (by decide) ⟨_, ho, rfl⟩ (fun s' => typeIs_int s' 1 t) noFill_tuple_mul PySem.F.fills_int_mul PySem.F.slot_int_rmul repeat_tuple PySem.F.slot_int_index.lookup
      (call_meets PySem.F.slot_int_rmul (typeIs_int s 1 t) PySem.F.entry_int_rmul (PySem.F.args_int_rmul_2 _ _) (int_rmul_tuple 1 t l its.toArray n dd sl)
        ⟨ho, rfl, ⟨_, ho, rfl⟩, call_meets PySem.F.slot_tuple_mul ⟨_, ho, rfl⟩ PySem.F.entry_tuple_mul (PySem.F.args_tuple_mul_2 _ _) (tuple_mul1 l its.toArray n dd sl t) ⟨ho, ?_⟩⟩)
    exact ⟨.ref l, H, I, rfl, q1 rfl⟩
  · have hk2 : 2 ≤ k := by omega
    cases rx
    obtain ⟨t, rfl⟩ := ry
    obtain ⟨its, r, ⟨⟨cls, dd, data, sl⟩, ho, hc, n, hd⟩, hs⟩ := I.tuple hT
    simp only at hc hd
    subst hc hd
    have hle : its.length = xs.length := r.length.symm
    have hn : its ≠ [] := fun e => hne (by
      rw [e] at hle
      exact List.eq_nil_of_length_eq_zero hle.symm)
    have hi : its.toArray.isEmpty = false := by
      cases its with
      | nil => exact absurd rfl hn
      | cons a b => rfl
    have hsz0 : its.toArray.size = xs.length := by rw [List.size_toArray, hle]
    have hm : ((its.toArray.size : Nat) : Int) * k ≤ 1000000 := by
      rw [hsz0]
      have a1 : ((xs.length : Nat) : Int) * k ≤ 1000 * k := Int.mul_le_mul_of_nonneg_right (by omega) (by omega)
      omega
    have flen : (List.replicate k.toNat its).flatten.length ≤ sizeLine := by
      rw [PyProof.Rows.lm_len_rep_flat, hle, sizeLine_eq]
      have a1 : k.toNat * xs.length ≤ 1000 * 1000 := Nat.mul_le_mul (by omega) hz
      omega
    have c0 : (decide (k < -(2 ^ 63)) || decide (k ≥ 2 ^ 63)) = false := by
      rw [decide_eq_false (by omega), decide_eq_false (by omega)] <;> rfl
    have c1 : (its.toArray.isEmpty || k == 1) = false := by
      rw [hi, Bool.false_or]
      exact beq_eq_false_iff_ne.mpr (by omega)
    have c2 : (decide (k ≤ 0) || its.toArray.isEmpty) = false := by
      rw [hi, Bool.or_false]
      exact decide_eq_false (by omega)
    have c4 : Builtin.Tuple.tupleTooMany (((its.toArray.size : Nat) : Int) * k) = false := by
      unfold Builtin.Tuple.tupleTooMany
      rw [sizeLine_eq]
      exact decide_eq_false (by omega)
    refine wpAny_binaryOp_repeat_ref (T := "tuple") (U := "int") (by decide) ⟨_, ho, rfl⟩ (fun s' => typeIs_int s' k t) noFill_tuple_mul PySem.F.fills_int_mul PySem.F.slot_int_rmul repeat_tuple PySem.F.slot_int_index.lookup
      (call_meets PySem.F.slot_int_rmul (typeIs_int s k t) PySem.F.entry_int_rmul (PySem.F.args_int_rmul_2 _ _) (int_rmul_tuple k t l its.toArray n dd sl)
        ⟨ho, rfl, ⟨_, ho, rfl⟩, call_meets PySem.F.slot_tuple_mul ⟨_, ho, rfl⟩ PySem.F.entry_tuple_mul (PySem.F.args_tuple_mul_2 _ _) (tuple_mulW l its.toArray n dd sl k t c0 c1 c2 (by omega) c4 (by rw [size_rep, List.size_toArray]; exact flen)) ⟨ho, ?_⟩⟩)
    rw [size_rep]
    have hf : H s.heap.objs.size = none := I.hok.fresh (Nat.le_refl _)
    refine ⟨.ref s.heap.objs.size, _, I.laid (t' := s.toks) (o := .frz { cls := .type "tuple", data := .seq (List.replicate k.toNat its).flatten.toArray } (.tup (List.replicate k.toNat xs).flatten)) (fun b ob q => Heap.get?_push_of_some _ q) (Nat.le_refl _) ?_, rfl, q2 hk2 _ _ hf (same_upd hf) (.bare rfl rfl upd_same)⟩
    exact ⟨Heap.get?_push_size _ rfl, by rw [PyProof.Rows.lm_len_rep_flat, sizeLine_eq]; have a1 : k.toNat * xs.length ≤ 1000 * 1000 := Nat.mul_le_mul (by omega) hz; omega, _, r.rep k.toNat, IsTup.new _ _⟩
theorem E_rep {k : Int} (ha : Ep ta ρ (.tup true [d])) (hb : Ep tb ρ (.int k)) (h1 : 1 ≤ k) (h2 : k ≤ 1000) : Ep (tOp (rRepB K) ta tb) ρ (.tup true (List.replicate k.toNat d)) := fun H S σ en H1 S1 Q x q =>
  ha.go (en.lift x) fun v H2 k2 o => hb.go ((en.lift x).same k2) fun u H3 k3 o3 => by
    rw [o3.int_inv]
    obtain ⟨a, xs, rfl, ea, na, oa⟩ := (o.same k3).tup_inv
    obtain ⟨y, rfl, oy⟩ := oa.one
    have lv3 := Lv.same k3 (Lv.same k2 x.live)
    refine ⟨a, k, [y], rfl, rfl, ea.sq, by simp, h1, h2, by simp, fun e1 => ?_, fun e2 p H4 hp k4 tp => ?_⟩
    · subst e1
      exact q _ _ (k2.trans k3) (.tup ea na (.cons oy .nil))
    · have er : (List.replicate k.toNat [y]).flatten = List.replicate k.toNat y := by
        induction k.toNat with
        | zero => rfl
        | succ n ih => rw [List.replicate_succ, List.flatten_cons, ih, List.replicate_succ]; rfl
      have oc : Ocs H3 S1 (List.replicate k.toNat y) (List.replicate k.toNat d) := by
        induction k.toNat with
        | zero => exact .nil
        | succ n ih => exact .cons oy ih
      rw [er] at tp
      exact q _ _ ((k2.trans k3).trans k4) (.tup tp (Lv.out lv3 hp) (oc.same k4))
end
end Lc

namespace Lc
open PySem PySem.Spec PyProof.Rows L2 RZ PySem.W
section
variable {ρ : Rho} {K : PySem.W.Frag} {te ta tb tl tz : TE} {tt tt1 : TT} {d e : Dt} {ds es : List Dt} {i j : Int}
/-! ### two clauses -/
theorem fl_rng {α : Type} (n : Nat) (r : Nat → List α) (m : Nat) (h : ∀ i, i < n → (r i).length ≤ m) : ((List.range n).flatMap r).length ≤ n * m := by
  induction n with
  | zero => simp
  | succ n ih =>
    rw [List.range_succ, List.flatMap_append, List.length_append, Nat.succ_mul]
    have h1 := ih fun i hi => h i (by omega)
    have h2 := h n (by omega)
    simp only [List.flatMap_cons, List.flatMap_nil, List.append_nil]
    omega
theorem rngf_succ {α : Type} (r : Nat → List α) (i : Nat) : (List.range (i + 1)).flatMap r = (List.range i).flatMap r ++ r i := by
  rw [List.range_succ, List.flatMap_append]; simp
theorem En.butD {H H' : Hp} {S : AS} {σ : L2.St} {ρ : Rho} {D : Addr} (e : En H (And1 S D) σ ρ) (n : ∀ (j : Nat) (ds : List Dt), ρ[j]? = some (.o ds) → σ[j]? ≠ some (some (.ref D))) (bt : But D H H') (l : Lv H' (And1 S D)) : En H' (And1 S D) σ ρ where
  len := e.len
  lv := l
  dat h := let ⟨v, hv, o⟩ := e.dat h; ⟨v, hv, o.but fun b u nb x => bt b u (fun z => nb (.inr z)) x⟩
  own {i ds} h := by
    obtain ⟨a, vs, hv, sa, ha, o⟩ := e.own h
    exact ⟨a, vs, hv, sa, bt a _ (fun z => n i ds h (z ▸ hv)) ha, o.but fun b u nb x => bt b u (fun z => nb (.inr z)) x⟩
  val := e.val
  inj := e.inj
theorem E_lc2 {wi wi1 : TI} {g g1 : TG} {n : Nat} {m : Nat → Nat} {f : Nat → Rho → Rho} {f1 : Nat → Nat → Rho → Rho} {vs vs1 : List Nat} {b : Nat → Bool} {r : Nat → Nat → Option Dt} (h : Es wi g ρ n f vs) (hz : n ≤ 1000) (hm : ∀ i, i < n → m i ≤ 900)
    (hb : ∀ i, i < n → Et tt (f i (wipeR ρ vs)) (b i))
    (h1 : ∀ i, i < n → b i = true → Es wi1 g1 (f i (wipeR ρ vs)) (m i) (f1 i) vs1)
    (hs : ∀ i j, i < n → b i = true → j < m i → Ec tt1 te (f1 i j (wipeR (f i (wipeR ρ vs)) vs1)) (r i j)) :
    Ef (tLc2 wi g tt wi1 g1 tt1 te vs vs1) ρ ((List.range n).flatMap fun i => if b i = true then (List.range (m i)).filterMap (r i) else []) := fun H S σ Q en q =>
  h H S σ _ en fun J H2 k y => by
    intro D hD
    have l2 := Lv.same k en.lv
    have en2 := en.same k
    have sz : ∀ i, i < n → (if b i = true then (List.range (m i)).filterMap (r i) else []).length ≤ 900 := fun i hi => by
      split
      · have := List.length_filterMap_le (r i) (List.range (m i))
        have := hm i hi
        rw [List.length_range] at *
        omega
      · simp
    refine ⟨fun i mm H' => mm = n - i ∧ i ≤ n ∧ Made H2 S D ((List.range i).flatMap fun i => if b i = true then (List.range (m i)).filterMap (r i) else []) H', ⟨_, rfl, Nat.zero_le _, Made.nil hD⟩, ?_⟩
    rintro i mm H' ⟨rfl, hi, md⟩
    have lf := md.lift l2 hD
    by_cases lt : i < n
    · refine .inr ⟨y.go i H' _ lf.mv lt, fun H' => Made H2 S D ((List.range (i + 1)).flatMap fun i => if b i = true then (List.range (m i)).filterMap (r i) else []) H', fun H3 z => ⟨_, by omega, rfl, lt, z⟩, fun x H'' yy => ?_⟩
      obtain ⟨kk, gg⟩ := y.yld i H' _ x H'' lf.mv lt yy
      refine gg _ _ _ ((en2.lift lf).wipe vs) fun σ2 e2 w2 ew => ⟨ew.trans (wipe_wipe σ vs), ?_⟩
      refine (hb i lt).go e2 fun H3 k3 => ?_
      have md3 : Made H2 S D ((List.range i).flatMap fun i => if b i = true then (List.range (m i)).filterMap (r i) else []) H3 := by
        obtain ⟨vs', e, oc⟩ := md.acc
        exact ⟨md.same.trans (kk.trans k3), vs', k3 _ _ (kk _ _ e), oc.same (kk.trans k3)⟩
      cases hbi : b i with
      | false =>
        refine iteF ?_
        rw [rngf_succ, hbi, if_neg (by decide), List.append_nil]
        exact md3
      | true =>
        refine iteT ?_
        refine h1 i lt hbi H3 _ σ2 _ (e2.same k3) fun J1 H4 k4 y1 => ?_
        have e4 := (e2.same k3).same k4
        have l4 := e4.lv
        have base : ∀ j, j ≤ m i → (((List.range i).flatMap fun i => if b i = true then (List.range (m i)).filterMap (r i) else []) ++ (List.range j).filterMap (r i)).length < 1000000 := fun j hj => by
          have a1 := fl_rng i _ 900 fun k hk => sz k (by omega)
          have a2 := List.length_filterMap_le (r i) (List.range j)
          have a3 := hm i lt
          rw [List.length_append]
          rw [List.length_range] at a2
          have a4 : i * 900 ≤ 1000 * 900 := Nat.mul_le_mul_right _ (by omega)
          omega
        have nown : ∀ (j : Nat) (ds : List Dt), (f i (wipeR ρ vs))[j]? = some (.o ds) → σ2[j]? ≠ some (some (.ref D)) := fun j ds hj hσ => by
          obtain ⟨j', es, h1', g1'⟩ := w2.go _ _ _ hj hσ
          obtain ⟨a, vs', ha, _, hH, _⟩ := (en2.wipe vs).own h1'
          rw [g1'] at ha
          cases ha
          rw [hD] at hH
          cases hH
        refine ⟨fun j kk H' => kk = m i - j ∧ j ≤ m i ∧ Made H2 S D (((List.range i).flatMap fun i => if b i = true then (List.range (m i)).filterMap (r i) else []) ++ (List.range j).filterMap (r i)) H' ∧ But D H4 H', ⟨_, rfl, Nat.zero_le _, ?_, But.refl _ _⟩, ?_⟩
        · obtain ⟨vs', e, oc⟩ := md3.acc
          refine ⟨md3.same.trans k4, vs', k4 _ _ e, ?_⟩
          simpa using oc.same k4
        rintro j kk' H5 ⟨rfl, hj, md5, bt⟩
        have lf5 := md5.lift l2 hD
        have mv5 : Mv H4 (And1 S D) H5 (And1 S D) := ⟨fun o => o.but fun b u nb e => bt b u (fun z => nb (.inr z)) e, lf5.live⟩
        have e5 : En H5 (And1 S D) σ2 (f i (wipeR ρ vs)) := e4.butD nown bt lf5.live
        by_cases jl : j < m i
        · refine .inr ⟨y1.go j H5 _ mv5 jl, fun H' => Made H2 S D (((List.range i).flatMap fun i => if b i = true then (List.range (m i)).filterMap (r i) else []) ++ (List.range (j + 1)).filterMap (r i)) H' ∧ But D H4 H', fun H6 z => ⟨_, by omega, rfl, jl, z⟩, fun x' H6 yy1 => ?_⟩
          obtain ⟨kk1, gg1⟩ := y1.yld j H5 _ x' H6 mv5 jl yy1
          refine gg1 _ _ _ (e5.wipe vs1) fun σ3 e6 w3 ew3 => ⟨ew3.trans (wipe_wipe σ2 vs1), ?_⟩
          obtain ⟨c, hc, h1', h0'⟩ := hs i j lt hbi jl
          refine hc.go e6 fun H7 k7 => ?_
          cases c with
          | true =>
            obtain ⟨e, er, he⟩ := h1' rfl
            refine iteT (he.go (e6.same k7) fun v H8 k8 o8 => ?_)
            obtain ⟨acc, a1, a2, m2⟩ := md5.step hD ((kk1.trans k7).trans k8) o8 (base j hj)
            refine ⟨acc, a1, a2, ?_, ?_⟩
            · rw [rng_succ, er, ← List.append_assoc]; exact m2
            · exact (bt.same ((kk1.trans k7).trans k8)).upd
          | false =>
            refine iteF ⟨?_, bt.same (kk1.trans k7)⟩
            rw [rng_succ, h0' rfl]
            show Made _ _ _ (_ ++ (_ ++ [])) _
            rw [List.append_nil]
            obtain ⟨vs', e, oc⟩ := md5.acc
            exact ⟨md5.same.trans (kk1.trans k7), vs', k7 _ _ (kk1 _ _ e), oc.same (kk1.trans k7)⟩
        · have ej : j = m i := by omega
          subst ej
          refine .inl ⟨y1.stop _ H5 _ mv5 (Nat.le_refl _), ?_⟩
          rw [rngf_succ, hbi, if_pos rfl]
          exact md5
    · have e : i = n := by omega
      subst e
      obtain ⟨vs', e, oc⟩ := md.acc
      exact .inl ⟨y.stop i H' _ lf.mv (Nat.le_refl _), q D vs' H' (k.trans md.same) (none_back k hD) e oc⟩
/-! ### data whose == is = -/
structure Enq {α : Type} [DecidableEq α] (f : α → Dt) : Prop where
  pl : ∀ a, (f a).pl = true
  eq : ∀ a b, PyData.eqv (pd (f a)) (pd (f b)) = decide (a = b)
  sh : ∀ a, SeqAt.shaped (pd (f a)) = true
  dp : ∀ a, (pd (f a)).depth ≤ 8
theorem Enq.any {α : Type} [DecidableEq α] {f : α → Dt} (q : Enq f) (a : α) : ∀ as : List α, ((as.map f).map pd).any (fun z => PyData.eqv z (pd (f a))) = decide (a ∈ as)
  | [] => rfl
  | b :: r => by
    rw [List.map_cons, List.map_cons, List.any_cons, Enq.any q a r, q.eq]
    by_cases h : b = a
    · subst h; simp
    · have h2 : ¬ a = b := fun z => h z.symm
      simp [h, h2]
theorem Enq.depth {α : Type} [DecidableEq α] {f : α → Dt} (q : Enq f) : ∀ as : List α, PyData.depthAll ((as.map f).map pd) ≤ 8
  | [] => by simp [PyData.depthAll]
  | b :: r => by
    rw [List.map_cons, List.map_cons, PyData.depthAll]
    have h1 := q.dp b
    have h2 := Enq.depth q r
    omega
theorem Enq.shaped {α : Type} [DecidableEq α] {f : α → Dt} (q : Enq f) (as : List α) : SeqAt.shaped (.list ((as.map f).map pd)) = true := by
  unfold SeqAt.shaped
  have e : PyData.canLayAll0 ((as.map f).map pd) = true := by
    induction as with
    | nil => rfl
    | cons x r ih =>
      rw [List.map_cons, List.map_cons, PyData.canLayAll0, ih]
      have h := q.sh x
      unfold SeqAt.shaped at h
      rw [Bool.and_eq_true] at h
      rw [h.1]; rfl
  have d := q.depth as
  rw [PyData.canLay0, e, PyData.depth, Bool.true_and, decide_eq_true_eq]
  omega
theorem Enq.dpl {α : Type} [DecidableEq α] {f : α → Dt} (q : Enq f) {H : Hp} {S : AS} {vs : List V} {as : List α} (o : Ocs H S vs (as.map f)) : DpAll K H vs ((as.map f).map pd) := by
  have := o.dp (K := K) (pl_of_map q.pl as)
  rw [pdAll_map] at this
  exact this
section
variable {α : Type} [DecidableEq α] {f : α → Dt} {a b : α} {as : List α}
theorem E_inL (q : Enq f) (ha : Ep ta ρ (f a)) (hb : El tb ρ (as.map f)) : Ep (tOp (rInD K) ta tb) ρ (.bl (decide (a ∈ as))) := fun H S σ en H1 S1 Q x qq =>
  ha.go (en.lift x) fun v H2 k o => hb H2 S1 σ _ ((en.lift x).same k) fun c ys H3 k3 hc oc => by
    refine ⟨pd (f a), (as.map f).map pd, (o.same k3).dp (q.pl a), .lst (SqL.of hc) (q.dpl oc), q.sh a, q.shaped as, ?_⟩
    rw [q.any]
    exact qq _ _ (k.trans k3) (.bl _)
theorem E_ninL (q : Enq f) (ha : Ep ta ρ (f a)) (hb : El tb ρ (as.map f)) : Ep (tOp (rNotInD K) ta tb) ρ (.bl (!decide (a ∈ as))) := fun H S σ en H1 S1 Q x qq =>
  ha.go (en.lift x) fun v H2 k o => hb H2 S1 σ _ ((en.lift x).same k) fun c ys H3 k3 hc oc => by
    refine ⟨pd (f a), (as.map f).map pd, (o.same k3).dp (q.pl a), .lst (SqL.of hc) (q.dpl oc), q.sh a, q.shaped as, ?_⟩
    rw [q.any]
    exact qq _ _ (k.trans k3) (.bl _)
theorem E_eqQ (q : Enq f) (ha : Ep ta ρ (f a)) (hb : Ep tb ρ (f b)) : Ep (tOp (rEqD K) ta tb) ρ (.bl (decide (a = b))) := fun H S σ en H1 S1 Q x qq =>
  ha.go (en.lift x) fun v H2 k o => hb.go ((en.lift x).same k) fun u H3 k3 o3 => by
    refine ⟨_, _, (o.same k3).dp (q.pl a), o3.dp (q.pl b), q.sh a, q.sh b, ?_⟩
    rw [q.eq]
    exact qq _ _ (k.trans k3) (.bl _)
theorem E_neQ (q : Enq f) (ha : Ep ta ρ (f a)) (hb : Ep tb ρ (f b)) : Ep (tOp (rNeD K) ta tb) ρ (.bl (!decide (a = b))) := fun H S σ en H1 S1 Q x qq =>
  ha.go (en.lift x) fun v H2 k o => hb.go ((en.lift x).same k) fun u H3 k3 o3 => by
    refine ⟨_, _, (o.same k3).dp (q.pl a), o3.dp (q.pl b), q.sh a, q.sh b, ?_⟩
    rw [q.eq]
    exact qq _ _ (k.trans k3) (.bl _)
end
theorem q_rows : Enq intT' where
  pl a := pl_ints a
  eq a b := by rw [pd_intT, pd_intT, eqv_rows]
  sh a := by rw [pd_intT]; exact shaped_row a
  dp a := by rw [pd_intT]; unfold intP; rw [PyData.depth, depth_ints]; omega
theorem Enq.inj {α β : Type} [DecidableEq α] [DecidableEq β] {f : α → Dt} (q : Enq f) (g : β → α) (hg : ∀ a b, g a = g b → a = b) : Enq (fun b => f (g b)) where
  pl a := q.pl _
  eq a b := by
    rw [q.eq]
    exact decide_eq_decide.mpr ⟨hg a b, fun h => by rw [h]⟩
  sh a := q.sh _
  dp a := q.dp _
/-! ### min with a default, max of a tuple, sorted -/
theorem E_minDf {ns : List Int} {m : Int} (hl : El tl ρ (ns.map Dt.int)) (hz : Ep tz ρ (.int m)) : Ep (tCKw (rMinDf K) (tCons tl tNil) (tCons tz tNil)) ρ (.int (if ns = [] then m else minL ns)) := fun H S σ en H1 S1 Q y q =>
  hl H1 S1 σ _ (en.lift y) fun a ys H2 k ea oa => hz.go ((en.lift y).same k) fun u H3 k3 o3 => by
    have e := oa.ints
    subst e
    have eu := o3.int_inv
    subst eu
    refine ⟨a, ns, _, rfl, rfl, SqL.of (k3 _ _ ea), fun e => ?_, fun e => ?_⟩
    · have h := q (.int m) _ (k.trans k3); rw [if_pos e] at h; exact h (.int _)
    · have h := q (.int (minL ns)) _ (k.trans k3); rw [if_neg e] at h; exact h (.int _)
theorem E_maxT {ns : List Int} (hl : Ep tl ρ (intT' ns)) (hne : ns ≠ []) : Ep (tCB (rMaxT K) (tCons tl tNil)) ρ (.int (maxL ns)) := fun H S σ en H1 S1 Q y q =>
  hl.go (en.lift y) fun v H2 k o => by
    obtain ⟨a, ys, rfl, ea, na, oa⟩ := o.tup_inv
    have e := oa.ints
    subst e
    cases ns with
    | nil => exact absurd rfl hne
    | cons x r => exact ⟨a, x, r, rfl, ea.sq, q _ _ k (.int _)⟩
end
end Lc

namespace Lc
open PySem PySem.Spec PyProof.Rows L2 RZ PySem.W
section
variable {ρ : Rho} {K : PySem.W.Frag} {te ta tb tl tz : TE} {tt tt1 : TT} {d e : Dt} {ds es : List Dt} {i j : Int}
theorem fm_if {α β : Type} (l : List α) (p : α → Bool) (f : α → β) : (l.filterMap fun a => if p a = true then some (f a) else none) = (l.filter p).map f := by
  induction l with
  | nil => rfl
  | cons a r ih =>
    by_cases c : p a = true
    · rw [List.filterMap_cons, List.filter_cons, if_pos c, if_pos c, List.map_cons]
      exact congrArg _ ih
    · rw [List.filterMap_cons, List.filter_cons, if_neg c, if_neg c]
      exact ih
/-- [f for target in typed things if p] -/
theorem E_lcG {α : Type} {enc : α → Dt} {ls : List α} {p : α → Bool} {f : α → Dt} {g : TG} {vs : List Nat} (z : α) {F : α → Rho → Rho} {wi : TI} (h : ∀ f : Nat → Rho → Rho, (∀ (i : Nat) (d : Dt), (ls.map enc)[i]? = some d → ∀ ρ, Eg g d ρ (f i ρ) vs) → Es wi g ρ (ls.map enc).length f vs) (hz : ls.length ≤ 999999)
    (hg : ∀ l ∈ ls, ∀ ρ, Eg g (enc l) ρ (F l ρ) vs) (ht : ∀ l ∈ ls, Et tt (F l (wipeR ρ vs)) (p l)) (he : ∀ l ∈ ls, p l = true → Ep te (F l (wipeR ρ vs)) (f l)) : Ef (tLc wi g tt te vs) ρ ((ls.filter p).map f) := by
  have E := E_lc (tt := tt) (te := te) (r := fun i => if p (ls.getD i z) = true then some (f (ls.getD i z)) else none) (h (fun i ρ => F (ls.getD i z) ρ) fun i d hd ρ' => ?_) (by rw [List.length_map]; exact hz) fun i hi => ?_
  · refine E.eq ?_
    rw [List.length_map, rng_fm ls (fun a => if p a = true then some (f a) else none) _ fun i a e => by rw [List.getD_eq_getElem?_getD, e]; rfl]
    exact fm_if ls p f
  · rw [List.getElem?_map] at hd
    obtain ⟨a, ha, rfl⟩ := Option.map_eq_some_iff.mp hd
    show Eg g (enc a) ρ' (F (ls.getD i z) ρ') vs
    rw [List.getD_eq_getElem?_getD, ha]
    exact hg a (List.mem_of_getElem? ha) ρ'
  · rw [List.length_map] at hi
    have hm : ls.getD i z ∈ ls := by
      rw [List.getD_eq_getElem?_getD, List.getElem?_eq_getElem hi]
      exact List.getElem_mem _
    exact C_if (ht _ hm) (he _ hm)
theorem E_lcA {α : Type} {enc : α → Dt} {ls : List α} {p : α → Bool} {f : α → Dt} {j : Nat} (z : α) (h : Ep tl ρ (.lst (ls.map enc))) (hz : ls.length ≤ 999999)
    (ht : ∀ l ∈ ls, Et tt ((wipeR ρ [j]).set j (.d (enc l))) (p l)) (he : ∀ l ∈ ls, p l = true → Ep te ((wipeR ρ [j]).set j (.d (enc l))) (f l)) : Ef (tLc (iList K tl) (gName j) tt te [j]) ρ ((ls.filter p).map f) :=
  E_lcG z (F := fun l ρ => ρ.set j (.d (enc l))) (fun f hf => Es_list h hf) hz (fun l _ ρ => G_name List.mem_cons_self) ht he
theorem E_lcAT {α : Type} {enc : α → Dt} {ls : List α} {p : α → Bool} {f : α → Dt} {j : Nat} {b : Bool} (z : α) (h : Ep tl ρ (.tup b (ls.map enc))) (hz : ls.length ≤ 999999)
    (ht : ∀ l ∈ ls, Et tt ((wipeR ρ [j]).set j (.d (enc l))) (p l)) (he : ∀ l ∈ ls, p l = true → Ep te ((wipeR ρ [j]).set j (.d (enc l))) (f l)) : Ef (tLc (iTup K tl) (gName j) tt te [j]) ρ ((ls.filter p).map f) :=
  E_lcG z (F := fun l ρ => ρ.set j (.d (enc l))) (fun f hf => Es_tup h hf) hz (fun l _ ρ => G_name List.mem_cons_self) ht he
/-- over a tuple, its items taken apart -/
theorem E_lcGT {α : Type} {enc : α → Dt} {ls : List α} {p : α → Bool} {f : α → Dt} {g : TG} {vs : List Nat} {b : Bool} (z : α) {F : α → Rho → Rho} (h : Ep tl ρ (.tup b (ls.map enc))) (hz : ls.length ≤ 999999)
    (hg : ∀ l ∈ ls, ∀ ρ, Eg g (enc l) ρ (F l ρ) vs) (ht : ∀ l ∈ ls, Et tt (F l (wipeR ρ vs)) (p l)) (he : ∀ l ∈ ls, p l = true → Ep te (F l (wipeR ρ vs)) (f l)) : Ef (tLc (iTup K tl) g tt te vs) ρ ((ls.filter p).map f) :=
  E_lcG z (F := F) (fun f hf => Es_tup h hf) hz hg ht he
/-- enumerate over a tuple of typed things -/
theorem E_lcN {α : Type} {enc : α → Dt} {ls : List α} {p : Nat → α → Bool} {f : Nat → α → Dt} {i1 i2 : Nat} {b : Bool} (z : α) (h : Ep tl ρ (.tup b (ls.map enc))) (hz : ls.length ≤ 999999)
    (ht : ∀ i l, ls[i]? = some l → Et tt (((wipeR ρ [i1, i2]).set i1 (.d (.int (i : Nat)))).set i2 (.d (enc l))) (p i l)) (he : ∀ i l, ls[i]? = some l → p i l = true → Ep te (((wipeR ρ [i1, i2]).set i1 (.d (.int (i : Nat)))).set i2 (.d (enc l))) (f i l)) :
    Ef (tLc (iEnumT K (tCons tl tNil)) (gTup K 2 (gCons (gName i1) (gCons (gName i2) gNil))) tt te [i1, i2]) ρ ((ls.zipIdx.filter fun q => p q.2 q.1).map fun q => f q.2 q.1) := by
  have E := E_lc (tt := tt) (te := te) (r := fun i => if p i (ls.getD i z) = true then some (f i (ls.getD i z)) else none) (Es_enumT (K := K) (i1 := i1) (g := gName i2) (vs := [i1, i2]) (f := fun i ρ => (ρ.set i1 (.d (.int (i : Nat)))).set i2 (.d (enc (ls.getD i z)))) h (by simp) fun i d hd ρ' => ?_) (by rw [List.length_map]; exact hz) fun i hi => ?_
  · refine E.eq ?_
    rw [List.length_map, ← fm_if]
    have e : ls.length = ls.zipIdx.length := by rw [List.length_zipIdx]
    rw [e]
    exact rng_fm ls.zipIdx (fun q => if p q.2 q.1 = true then some (f q.2 q.1) else none) _ fun i a e => by
      rw [List.getElem?_zipIdx] at e
      obtain ⟨x, hx, rfl⟩ := Option.map_eq_some_iff.mp e
      rw [List.getD_eq_getElem?_getD, hx, Nat.zero_add]; rfl
  · rw [List.getElem?_map] at hd
    obtain ⟨a, ha, rfl⟩ := Option.map_eq_some_iff.mp hd
    show Eg (gName i2) (enc a) _ ((ρ'.set i1 (.d (.int (i : Nat)))).set i2 (.d (enc (ls.getD i z)))) _
    rw [List.getD_eq_getElem?_getD, ha]
    exact G_name (by simp)
  · rw [List.length_map] at hi
    have hm : ls[i]? = some (ls.getD i z) := by
      rw [List.getD_eq_getElem?_getD, List.getElem?_eq_getElem hi]; rfl
    exact C_if (ht i _ hm) (he i _ hm)
end
end Lc

namespace Lc
open PySem PySem.Spec PyProof.Rows L2 RZ PySem.W
section
variable {ρ : Rho} {K : PySem.W.Frag} {te ta tb tl tz : TE} {tt tt1 : TT} {d e : Dt} {ds es : List Dt} {i j : Int}
/-! ### enumerate over a list held as a datum -/
theorem Es_enumL {i1 : Nat} {g : TG} {f : Nat → Rho → Rho} {vs : List Nat} (h : Ep te ρ (.lst ds)) (hm : i1 ∈ vs) (hg : ∀ i d, ds[i]? = some d → ∀ ρ, Eg g d (ρ.set i1 (.d (.int (i : Nat)))) (f i ρ) vs) : Es (iEnum K (tCons te tNil)) (gTup K 2 (gCons (gName i1) (gCons g gNil))) ρ ds.length f vs := fun H S σ R en q =>
  h.go en fun v H2 k o => by
    obtain ⟨a, xs, rfl, ea, na, oa⟩ := o.lst_inv
    refine ⟨a, xs, rfl, SqL.of ea, q _ _ k ⟨fun i H' S' m hi => ?_, fun i H' S' m hi => ?_, fun i H' S' x H'' m hi y => ?_⟩⟩
    · obtain ⟨b, ys, eb, hb, nb, ob⟩ := (m.ob o).lst_inv
      cases eb
      exact ⟨ys, _, SqL.of hb, List.getElem?_eq_getElem (by rw [ob.len]; exact hi)⟩
    · obtain ⟨b, ys, eb, hb, nb, ob⟩ := (m.ob o).lst_inv
      cases eb
      exact ⟨ys, SqL.of hb, by rw [ob.len]; exact hi⟩
    · obtain ⟨b, ys, eb, hb, nb, ob⟩ := (m.ob o).lst_inv
      cases eb
      obtain ⟨t, y, rfl, ht, rfl, fx⟩ := y
      have hx := fx _ (SqL.of hb)
      obtain ⟨d', hd, od⟩ := ob.get hx
      have kt := same_upd (o := .tup [.int (i : Nat), y]) ht
      refine ⟨kt, fun σ' ρ' Q' en' q' => ⟨t, _, rfl, SqT.of upd_same, rfl, _, _, rfl, ?_⟩⟩
      exact ⟨_, _, rfl, hg i d' hd ρ' _ _ _ y _ ((en'.same kt).set (.int (i : Nat))) (od.same kt) fun σ2 en2 w2 e2 => ⟨rfl, q' σ2 en2 (Ow.set.trans w2) (e2.trans (wipe_set hm))⟩⟩
/-! ### defs that give a new list -/
def spNw {α : Type} (enc : α → List Dt) (pre : α → Prop) (F : α → List Dt) : Sp := fun vs H Q _ => ∃ (S : AS) (a : α), Ocs H S vs (enc a) ∧ Lv H S ∧ pre a ∧ ∀ p us H', Same H H' → H p = none → H' p = some (.lst us) → Ocs H' (And1 S p) us (F a) → Q (.ref p) H'
theorem E_callN {α : Type} {enc : α → List Dt} {pre : α → Prop} {F : α → List Dt} {E : XK} {t : TA} (a : α) (h : Ea t ρ (enc a)) (hp : pre a) : Ef (tCall (spNw enc pre F) [] E t) ρ (F a) := fun H S σ Q en q =>
  h H S σ en H S _ (Lift.refl en.lv) fun vs H2 k o => by
    show spNw enc pre F (vs ++ []) H2 Q E
    rw [List.append_nil]
    exact ⟨S, a, o, Lv.same k en.lv, hp, fun p us H' k2 n2 e2 o2 => q p us H' (k.trans k2) (none_back k n2) e2 o2⟩
/-- statements that end in a new list -/
def Sn (H0 : Hp) (S0 : AS) (ts : TS) (ρ : Rho) (es : List Dt) : Prop := ∀ (H : Hp) (S : AS) (σ : L2.St) (D : Ends), En H S σ ρ → Rl H0 S0 H S σ ρ →
  (∀ p us H', Same H0 H' → H0 p = none → H' p = some (.lst us) → Ocs H' (And1 S0 p) us es → D.rt (.ref p) H') → ts D σ H
variable {H0 : Hp} {S0 : AS} {ts tu : TS}
theorem Sn_ret (h : Ef te ρ es) : Sn H0 S0 (tRet te) ρ es := fun H S σ D en rl kr =>
  h H S σ _ en fun a vs H2 k na ha oc => kr a vs H2 (rl.same.trans k) (none_back rl.same na) ha (oc.sub fun b z => z.elim (fun z => .inl (rl.sub b z)) .inr)
theorem Sn_then {ρ1 : Rho} (h1 : Sv H0 S0 ts ρ ⟨fun r => r = ρ1, fun _ => False, fun _ => False, fun _ => False⟩) (h2 : Sn H0 S0 tu ρ1 es) : Sn H0 S0 (tSeq ts tu) ρ es := fun H S σ D en rl kr =>
  h1 H S σ { D with nx := tu D } en rl (fun ρ' H' S' σ' n e r m => by subst n; exact h2 H' S' σ' D e r kr) (fun _ _ _ z => z.elim) (fun _ _ _ _ z => z.elim) (fun _ _ _ _ z => z.elim)
theorem Sn_setT {i : Nat} {ρ1 : Rho} (h : Ep te ρ d) (e : ρ.set i (.d d) = ρ1) (h2 : Sn H0 S0 tu ρ1 es) : Sn H0 S0 (tSeq (tAsg te (gName i)) tu) ρ es := Sn_then (Sv_set h e) h2
theorem Sn_newT {i : Nat} {ρ1 : Rho} (h : Ef te ρ ds) (e : ρ.set i (.o ds) = ρ1) (h2 : Sn H0 S0 tu ρ1 es) : Sn H0 S0 (tSeq (tAsg te (gName i)) tu) ρ es := Sn_then (Sv_new h e) h2
theorem Sn_asgT {g : TG} {vs : List Nat} {ρ1 : Rho} (h : Ep te ρ d) (hg : Eg g d ρ ρ1 vs) (h2 : Sn H0 S0 tu ρ1 es) : Sn H0 S0 (tSeq (tAsg te g) tu) ρ es := Sn_then (Sv_asg h hg rfl) h2
theorem Sn_if {b : Bool} (h : Et tt ρ b) (h1 : b = true → Sn H0 S0 ts ρ es) (h0 : b = false → Sn H0 S0 tu ρ es) : Sn H0 S0 (tIfS tt ts tu) ρ es := fun H S σ D en rl kr =>
  h.go en fun H2 k => by
    cases b with
    | true => exact h1 rfl H2 S σ D (en.same k) (rl.step k (Ow.refl _ _)) kr
    | false => exact h0 rfl H2 S σ D (en.same k) (rl.step k (Ow.refl _ _)) kr
theorem Sn_eq (h : Sn H0 S0 ts ρ ds) (z : ds = es) : Sn H0 S0 ts ρ es := z ▸ h
theorem fn_new {H : Hp} {S : AS} {N : List Str} {vs : List V} {ds : List Dt} {ts : TS} {D : Ends} (l : Lv H S) (o : Ocs H S vs ds) (h : Sn H S ts (rho N ds) es) (q : ∀ p us H', Same H H' → H p = none → H' p = some (.lst us) → Ocs H' (And1 S p) us es → D.rt (.ref p) H') : ts D (L2.start N vs) H :=
  h H S _ D (En.fn l o) (Rl.refl l (no_own _ _)) q
end
/-! ### x[k] of a tuple or a list -/
def rIxB (K : PySem.W.Frag) : R2 := fun x y H Q => rIxT K x y H Q ∨ rIxL K x y H Q
theorem ixB {X : Cx} (K : PySem.W.Frag) (h : X.K = K := by rfl) : IxR X (rIxB K) := fun value slice pins s σ H x y v u Q I rx ry hq e => hq.elim (fun z => ixT K h value slice pins s σ H x y v u Q I rx ry z e) fun z => ixL K h value slice pins s σ H x y v u Q I rx ry z e
section
variable {ρ : Rho} {K : PySem.W.Frag} {ta tb : TE} {d : Dt} {ds : List Dt} {i : Int}
theorem E_ixBT {n : Nat} {z : Bool} (ha : Ep ta ρ (.tup z ds)) (hb : Ep tb ρ (.int (n : Nat))) (hd : ds[n]? = some d) : Ep (tOp (rIxB K) ta tb) ρ d := fun H S σ en H1 S1 Q x q => ha.go (en.lift x) fun v H2 k o => hb.go ((en.lift x).same k) fun u H3 k3 o3 => by
  have e := o3.int_inv
  subst e
  obtain ⟨a, xs, rfl, ea, na, oa⟩ := (o.same k3).tup_inv
  obtain ⟨w, hw, ow⟩ := oa.at hd
  exact .inl ⟨a, xs, _, w, rfl, rfl, ea.sq, atI_nat hw, q _ _ (k.trans k3) ow⟩
theorem E_ixBL {n : Nat} (ha : Ep ta ρ (.lst ds)) (hb : Ep tb ρ (.int (n : Nat))) (hd : ds[n]? = some d) : Ep (tOp (rIxB K) ta tb) ρ d := fun H S σ en H1 S1 Q x q => ha.go (en.lift x) fun v H2 k o => hb.go ((en.lift x).same k) fun u H3 k3 o3 => by
  have e := o3.int_inv
  subst e
  obtain ⟨a, xs, rfl, ea, na, oa⟩ := (o.same k3).lst_inv
  obtain ⟨w, hw, ow⟩ := oa.at hd
  exact .inr ⟨a, xs, _, w, rfl, rfl, SqL.of ea, atI_nat hw, q _ _ (k.trans k3) ow⟩
end
/-! ### own lists as arguments, a plain value back -/
theorem flat_any {H : Hp} {S : AS} {v u : V} {d : Dt} (hu : vOf d = some u) (o : Oc H (fun _ => False) v d) : Oc H S v d := by
  cases d with
  | non => cases o; exact .non
  | bl b => cases o; exact .bl b
  | int b => cases o; exact .int b
  | str b => cases o; exact .str b
  | _ => exact nomatch hu
def Ew (t : TA) (ρ : Rho) (ds : List Dt) : Prop := ∀ (H : Hp) (S : AS) (σ : L2.St) (Q : List V → Hp → Prop), En H S σ ρ → (∀ vs H2, Same H H2 → Ocs H2 (fun _ => False) vs ds → Q vs H2) → t σ H Q
section
variable {ρ : Rho} {K : PySem.W.Frag} {te ta tb : TE} {t : TA} {d e : Dt} {ds es : List Dt} {i : Nat}
theorem W_nil : Ew tNil ρ [] := fun H S σ Q en q => q [] H (fun _ _ z => z) .nil
theorem W_cons (h : Ep te ρ d) (ht : Ew t ρ ds) : Ew (tCons te t) ρ (d :: ds) := fun H S σ Q en q =>
  h.go en fun v H2 k o => ht H2 S σ _ (en.same k) fun vs H3 k3 o3 => q _ _ (k.trans k3) (.cons ((o.same k3).sub fun _ z => z.elim) o3)
theorem W_own (h : ρ[i]? = some (.o es)) (ht : Ew t ρ ds) : Ew (tCons (tVar i) t) ρ (.lst es :: ds) := fun H S σ Q en q => by
  obtain ⟨a, vs, e1, sa, ha, oc⟩ := en.own h
  refine ⟨.ref a, e1, ht H S σ _ en fun us H3 k3 o3 => q _ _ k3 (.cons ((Oc.lst ha id (oc.sub fun _ z => z.elim)).same k3) o3)⟩
theorem E_callW {α : Type} {enc : α → List Dt} {pre : α → Prop} {F : α → Dt} {E : XK} {u : V} (a : α) (h : Ew t ρ (enc a)) (hp : pre a) (hu : vOf (F a) = some u := by rfl) : Ep (tCall (spTy enc pre F) [] E t) ρ (F a) := fun H S σ en H1 S1 Q x q =>
  h H1 S1 σ _ (en.lift x) fun vs H2 k o => by
    show spTy enc pre F (vs ++ []) H2 Q E
    rw [List.append_nil]
    exact ⟨fun _ => False, a, o, fun _ z => z.elim, hp, fun v H' k2 o2 => q v H' (k.trans k2) (flat_any hu o2)⟩
theorem E_truL (h : Ep te ρ (.lst ds)) : Et (fun σ H Q => te σ H fun x H' => ∃ k, TruV K x H' k ∧ Q k H') ρ (!ds.isEmpty) := fun H S σ en => T_truL (h H S σ en)
theorem rng_const {α : Type} (n : Nat) (d : α) : ((List.range n).filterMap fun _ => some d) = List.replicate n d := by
  induction n with
  | zero => rfl
  | succ n ih => rw [List.range_succ, List.filterMap_append, ih, List.replicate_succ']; rfl
theorem fm_const {α β : Type} (l : List α) (d : β) : (l.filterMap fun _ => some d) = List.replicate l.length d := by
  induction l with
  | nil => rfl
  | cons a r ih => rw [List.filterMap_cons, ih]; rfl
end
/-! ### from the older drawing -/
mutual
theorem Ob.oc {H : Hp} {p : Addr} : ∀ {v : V} {d : Dt}, Ob H p v d → d.pl = true → Oc H (fun _ => False) v d
  | _, _, .non, _ => .non
  | _, _, .bl b, _ => .bl b
  | _, _, .int i, _ => .int i
  | _, _, .str s, _ => .str s
  | _, _, .lst e ne all, n => .lst e id (Obs.oc all (by rw [Dt.pl] at n; exact n))
  | _, _, .tup e ne all, n => .tup e id (Obs.oc all (by rw [Dt.pl] at n; exact n))
  | _, _, .dic _ _, n => (nomatch n)
theorem Obs.oc {H : Hp} {p : Addr} : ∀ {vs : List V} {ds : List Dt}, Obs H p vs ds → Dt.plAll ds = true → Ocs H (fun _ => False) vs ds
  | _, _, .nil, _ => .nil
  | _, _, .cons h t, n => .cons (Ob.oc h (by rw [Dt.plAll, Bool.and_eq_true] at n; exact n.1)) (Obs.oc t (by rw [Dt.plAll, Bool.and_eq_true] at n; exact n.2))
end
/-! ### an address off a datum -/
mutual
theorem Oc.obx {H : Hp} {S : AS} : ∀ {v : V} {d : Dt}, Oc H S v d → d.pl = true → ∃ N : Nat, ∀ p : Addr, N ≤ p → Ob H p v d
  | _, _, .non, _ => ⟨0, fun _ _ => .non⟩
  | _, _, .bl b, _ => ⟨0, fun _ _ => .bl b⟩
  | _, _, .int i, _ => ⟨0, fun _ _ => .int i⟩
  | _, _, .str s, _ => ⟨0, fun _ _ => .str s⟩
  | _, _, .lst (a := a) e ne all, n => let ⟨N, h⟩ := Ocs.obx all (by rw [Dt.pl] at n; exact n); ⟨N + (a + 1), fun p z => .lst e (by intro q; subst q; omega) (h p (by omega))⟩
  | _, _, .tup (a := a) e ne all, n => let ⟨N, h⟩ := Ocs.obx all (by rw [Dt.pl] at n; exact n); ⟨N + (a + 1), fun p z => .tup e (by intro q; subst q; omega) (h p (by omega))⟩
  | _, _, .ins _ _ _ _, n => (nomatch n)
theorem Ocs.obx {H : Hp} {S : AS} : ∀ {vs : List V} {ds : List Dt}, Ocs H S vs ds → Dt.plAll ds = true → ∃ N : Nat, ∀ p : Addr, N ≤ p → Obs H p vs ds
  | _, _, .nil, _ => ⟨0, fun _ _ => .nil⟩
  | _, _, .cons h t, n => let ⟨N, a⟩ := Oc.obx h (by rw [Dt.plAll, Bool.and_eq_true] at n; exact n.1); let ⟨M, b⟩ := Ocs.obx t (by rw [Dt.plAll, Bool.and_eq_true] at n; exact n.2); ⟨N + M, fun p z => .cons (a p (by omega)) (b p (by omega))⟩
end
end Lc

namespace Lc
open PySem PySem.Spec PyProof.Rows L2 RZ PySem.W
/-! ### f(a, *b), f a local name that holds one of several defs -/
/-- the promise goes with the address -/
def tCallAS (i : Nat) (S : Addr → Sp → Prop) (t : TA) : TE := fun σ H Q => ∃ f sp, σ[i]? = some (some (.ref f)) ∧ S f sp ∧ t σ H fun vs H1 => sp vs H1 Q (fun _ _ _ => False)
section
variable {X : Cx} {k i : Nat} {x : Str} {p pos : Pos} {e : Expr} {es : List Expr} {t : TA}
theorem pe_callAS {S : Addr → Sp → Prop} (A : ∀ f sp, S f sp → L2.Held X.prog X.w X.K X.mg X.base k f sp) (hr : Room k X.A) (hN : X.N[i]? = some x) (hv : Vis X.env.scope x) (ha : PA X (e :: es) t)
    (hdb : (x == ("__debug__" : Str)) = false := by decide) (hcd : (x == ("__classdict__" : Str)) = false := by decide)
    (he : starEach (e :: es) X.env = (false, eval e X.env) :: starEach es X.env := by rfl) (hst : (backTo pos (starEach es X.env)).any (·.1) = true := by rfl) :
    PE X (.Call (.Name x p) (e :: es) [] pos) (tCallAS i S t) := by
  refine ⟨fun pins s σ H Q I h => ?_⟩
  obtain ⟨f, sp, hs, hS, ht⟩ := h
  obtain ⟨fd, ps, F, hk, hb⟩ := (A f sp hS).ex
  refine wpAny_Call_Name_kw (thn ((pe_var (pos := p) hN hv hdb hcd).run pins s σ H (fun v H1 => v = .ref f ∧ H1 = H) I ⟨.ref f, hs, rfl, rfl⟩) fun u s1 ⟨v, H1, I1, r1, q1⟩ => ?_)
  obtain ⟨rfl, rfl⟩ := q1
  cases r1
  refine PySem.W.callWith_S2 (h₀ := X.base) I.ok.mod.kin hk (thn (ha.run pos pins s1 σ _ _ I1 ht) fun us s2 ⟨vs, H2, I2, r, q⟩ => ⟨I2.kIn, ?_⟩) he hst
  exact run_fn (dvs := []) F hr hb .nil (fun _ _ _ _ _ _ _ z => z.elim) I2 r (by rw [List.append_nil]; exact q)
end
section
variable {H0 : Hp} {S0 : AS} {ρ : Rho} {K : PySem.W.Frag} {w : World} {te ta tb : TE} {t : TA} {d e : Dt} {ds es : List Dt} {i : Nat} {O : Eo} {tu : TS}
theorem E_callAS {α : Type} {enc : α → List Dt} {pre : α → Prop} {F : α → Dt} {S : Addr → Sp → Prop} {f : Addr} (hi : ρ[i]? = some (.v (.ref f))) (hS : S f (spTy enc pre F)) (a : α) (h : Ea t ρ (enc a)) (hp : pre a) : Ep (tCallAS i S t) ρ (F a) := fun H S σ en H1 S1 Q x q =>
  ⟨f, _, en.val hi, hS, h H S σ en H1 S1 _ x fun vs H2 k o => ⟨S1, a, o, Lv.same k x.live, hp, fun v H' k2 o2 => q v H' (k.trans k2) o2⟩⟩
theorem En.setV {H : Hp} {S : AS} {σ : L2.St} {i : Nat} {v : V} (e : En H S σ ρ) : En H S (σ.set i (some v)) (ρ.set i (.v v)) where
  len := by rw [List.length_set, List.length_set]; exact e.len
  lv := e.lv
  dat {j d'} h := by
    rcases sl_set h with ⟨rfl, z⟩ | ⟨ne, h⟩
    · cases z
    · obtain ⟨u, hu, ou⟩ := e.dat h
      exact ⟨u, by rw [List.getElem?_set_ne ne]; exact hu, ou⟩
  own {j ds} h := by
    rcases sl_set h with ⟨rfl, z⟩ | ⟨ne, h⟩
    · cases z
    · obtain ⟨a, vs, hu, x⟩ := e.own h
      exact ⟨a, vs, by rw [List.getElem?_set_ne ne]; exact hu, x⟩
  val {j u} h := by
    rcases sl_set h with ⟨rfl, z⟩ | ⟨ne, h⟩
    · cases z
      have hl : i < ρ.length := by
        have := (List.getElem?_eq_some_iff.mp h).1; rwa [List.length_set] at this
      exact List.getElem?_set_self (by rw [e.len]; exact hl)
    · rw [List.getElem?_set_ne ne]; exact e.val h
  inj {j k ds es a} h1 h2 g1 g2 := by
    rcases sl_set h1 with ⟨rfl, z⟩ | ⟨n1, h1⟩
    · cases z
    rcases sl_set h2 with ⟨rfl, z⟩ | ⟨n2, h2⟩
    · cases z
    rw [List.getElem?_set_ne n1] at g1
    rw [List.getElem?_set_ne n2] at g2
    exact e.inj h1 h2 g1 g2
theorem Ow.setV {σ : L2.St} {ρ : Rho} {i : Nat} {v : Option V} {u : V} : Ow σ ρ (σ.set i v) (ρ.set i (.v u)) := ⟨fun j ds a h g => by
  rcases sl_set h with ⟨rfl, z⟩ | ⟨ne, h⟩
  · cases z
  · rw [List.getElem?_set_ne ne] at g
    exact ⟨_, _, h, g⟩⟩
/-- x = D[key], D a dict of the module's, the value whatever it is -/
theorem Sv_keyT {D : Addr} {z : Str} {v : V} {ρ1 : Rho} (h : Ep te ρ (.str z)) (kd : KDct K w D z v) (e : ρ.set i (.v v) = ρ1) (h2 : Sv H0 S0 tu ρ1 O) : Sv H0 S0 (tSeq (tAsg (tOp (rIxD K w) (tC (.ref D)) te) (gName i)) tu) ρ O := by
  subst e
  refine Sv_then ?_ h2
  exact fun H S σ Dd en rl kn kr kb kc => h.go en fun u H2 k o => by
    have e := o.str_inv
    subst e
    exact ⟨D, z, v, rfl, rfl, kd, kn _ _ _ _ rfl ((en.same k).setV) (rl.step k Ow.setV) (Mv.same en.lv k)⟩
theorem E_slTTo {th : TE} {k : Int} (h : Ep te ρ (.tup true ds)) (hh : Ep th ρ (.int k)) (h0 : 0 ≤ k) : Ep (tSl (rSlF K) te tNoPart (tPart th)) ρ (.tup true (ds.take k.toNat)) := fun H S σ en => D_slTo (k := k.toNat) (h H S σ en) ((E_eq hh (by congr 1; omega)) H S σ en)
theorem E_slTFrom {th : TE} {k : Int} (h : Ep te ρ (.tup true ds)) (hh : Ep th ρ (.int k)) (h0 : 0 ≤ k) : Ep (tSl (rSlF K) te (tPart th) tNoPart) ρ (.tup true (ds.drop k.toNat)) := fun H S σ en => D_slFrom (k := k.toNat) (h H S σ en) ((E_eq hh (by congr 1; omega)) H S σ en)
theorem E_slTMid {tl th : TE} {k m : Int} (h : Ep te ρ (.tup true ds)) (hl : Ep tl ρ (.int k)) (hh : Ep th ρ (.int m)) (h0 : 0 ≤ k) (h1 : 0 ≤ m) : Ep (tSl (rSlF K) te (tPart tl) (tPart th)) ρ (.tup true ((ds.drop k.toNat).take (m.toNat - k.toNat))) := fun H S σ en => D_slMid (k := k.toNat) (m := m.toNat) (h H S σ en) ((E_eq hl (by congr 1; omega)) H S σ en) ((E_eq hh (by congr 1; omega)) H S σ en)
theorem E_isi2 {a b : String} {r : Bool} (h : Ep te ρ d) (k : PySem.W.kitAny K (.type (tyName d)) [.type a, .type b] = some r) (n : d.pl = true := by rfl) : Ep (tCB (rIsiT K) (tCons te (tCons (tTup (tCons (tC (.ty a)) (tCons (tC (.ty b)) tNil))) tNil))) ρ (.bl r) := fun H S σ en H1 S1 Q x q =>
  h.go (en.lift x) fun v H2 k2 o =>
    ⟨by show 2 ≤ sizeLine; decide, fun p hp => ⟨v, p, [.ty a, .ty b], .type (tyName d), [.type a, .type b], r, rfl, upd_same, .cons (.ty a) (.cons (.ty b) .nil), ((o.same (same_upd hp)).arg n).ty, k, q _ _ (k2.trans (same_upd hp)) (.bl _)⟩⟩
theorem E_notV {b : Bool} (h : Ep te ρ (.bl b)) : Ep (tNotV te) ρ (.bl (!b)) := fun H S σ en H1 S1 Q x q => h.go (en.lift x) fun v H2 k o => by
  rw [o.bl_inv]
  exact ⟨b, rfl, q _ _ k (.bl _)⟩
end
/-- as Enq, of some of the data only -/
structure EnqP {α : Type} [DecidableEq α] (f : α → Dt) (P : α → Prop) : Prop where
  pl : ∀ a, (f a).pl = true
  eq : ∀ a b, PyData.eqv (pd (f a)) (pd (f b)) = decide (a = b)
  sh : ∀ a, P a → SeqAt.shaped (pd (f a)) = true
  dp : ∀ a, (pd (f a)).depth ≤ 8
theorem EnqP.any {α : Type} [DecidableEq α] {f : α → Dt} {P : α → Prop} (q : EnqP f P) (a : α) : ∀ as : List α, ((as.map f).map pd).any (fun z => PyData.eqv z (pd (f a))) = decide (a ∈ as)
  | [] => rfl
  | b :: r => by
    rw [List.map_cons, List.map_cons, List.any_cons, EnqP.any q a r, q.eq]
    by_cases h : b = a
    · subst h; simp
    · have h2 : ¬ a = b := fun z => h z.symm
      simp [h, h2]
theorem EnqP.depth {α : Type} [DecidableEq α] {f : α → Dt} {P : α → Prop} (q : EnqP f P) : ∀ as : List α, PyData.depthAll ((as.map f).map pd) ≤ 8
  | [] => by simp [PyData.depthAll]
  | b :: r => by
    rw [List.map_cons, List.map_cons, PyData.depthAll]
    have h1 := q.dp b
    have h2 := EnqP.depth q r
    omega
theorem EnqP.shaped {α : Type} [DecidableEq α] {f : α → Dt} {P : α → Prop} (q : EnqP f P) (as : List α) (hp : ∀ b ∈ as, P b) : SeqAt.shaped (.list ((as.map f).map pd)) = true := by
  unfold SeqAt.shaped
  have e : PyData.canLayAll0 ((as.map f).map pd) = true := by
    induction as with
    | nil => rfl
    | cons x r ih =>
      rw [List.map_cons, List.map_cons, PyData.canLayAll0, ih fun b hb => hp b (List.mem_cons_of_mem _ hb)]
      have h := q.sh x (hp x List.mem_cons_self)
      unfold SeqAt.shaped at h
      rw [Bool.and_eq_true] at h
      rw [h.1]; rfl
  have d := q.depth as
  rw [PyData.canLay0, e, PyData.depth, Bool.true_and, decide_eq_true_eq]
  omega
theorem E_inLP {α : Type} [DecidableEq α] {f : α → Dt} {P : α → Prop} {a : α} {as : List α} {ρ : Rho} {K : PySem.W.Frag} {ta tb : TE} (q : EnqP f P) (pa : P a) (ps : ∀ b ∈ as, P b) (ha : Ep ta ρ (f a)) (hb : El tb ρ (as.map f)) : Ep (tOp (rInD K) ta tb) ρ (.bl (decide (a ∈ as))) := fun H S σ en H1 S1 Q x qq =>
  ha.go (en.lift x) fun v H2 k o => hb H2 S1 σ _ ((en.lift x).same k) fun c ys H3 k3 hc oc => by
    have dpl : DpAll K H3 ys ((as.map f).map pd) := by
      have := oc.dp (K := K) (pl_of_map q.pl as)
      rw [pdAll_map] at this
      exact this
    refine ⟨pd (f a), (as.map f).map pd, (o.same k3).dp (q.pl a), .lst (SqL.of hc) dpl, q.sh a pa, q.shaped as ps, ?_⟩
    rw [q.any]
    exact qq _ _ (k.trans k3) (.bl _)
/-! ### x in t, t a tuple of data -/
def rInT (K : PySem.W.Frag) : R2 := fun x y H Q => ∃ d ds, Dp K H x d ∧ Dp K H y (.tuple ds) ∧ SeqAt.shaped d = true ∧ SeqAt.shaped (.tuple ds) = true ∧ Q (.bl (ds.any fun z => PyData.eqv z d)) H
theorem op_inT {X : Cx} (K : PySem.W.Frag) (hu : X.A.units + 65 < cLine) (hK : X.K = K := by rfl) : OpR X (compareOp .In) (rInT K) := by
  subst hK
  intro pins s σ H x y v u Q I rx ry h
  obtain ⟨d, ds, hd, he, sd, se, q⟩ := h
  obtain ⟨as, r1⟩ := Dp.reads I d x v hd rx
  obtain ⟨bs, r2⟩ := Dp.reads I (.tuple ds) y u he ry
  exact SeqAt.in_tuple_reads r2 r1 (SeqAt.canLay_of_shaped se) (SeqAt.canLay_of_shaped sd) (room_in_shaped sd hu) ⟨.bl _, H, I, rfl, q⟩
def rNotInT (K : PySem.W.Frag) : R2 := fun x y H Q => ∃ d ds, Dp K H x d ∧ Dp K H y (.tuple ds) ∧ SeqAt.shaped d = true ∧ SeqAt.shaped (.tuple ds) = true ∧ Q (.bl (!ds.any fun z => PyData.eqv z d)) H
theorem op_notInT {X : Cx} (K : PySem.W.Frag) (hu : X.A.units + 65 < cLine) (hK : X.K = K := by rfl) : OpR X (compareOp .NotIn) (rNotInT K) := by
  subst hK
  intro pins s σ H x y v u Q I rx ry h
  obtain ⟨d, ds, hd, he, sd, se, q⟩ := h
  obtain ⟨as, r1⟩ := Dp.reads I d x v hd rx
  obtain ⟨bs, r2⟩ := Dp.reads I (.tuple ds) y u he ry
  exact SeqAt.notIn_tuple_reads r2 r1 (SeqAt.canLay_of_shaped se) (SeqAt.canLay_of_shaped sd) (room_in_shaped sd hu) ⟨.bl _, H, I, rfl, q⟩
section
variable {α : Type} [DecidableEq α] {f : α → Dt} {a : α} {as : List α} {ρ : Rho} {K : PySem.W.Frag} {ta tb : TE}
theorem E_inT (q : Enq f) (ha : Ep ta ρ (f a)) (hb : Ep tb ρ (.tup true (as.map f))) : Ep (tOp (rInT K) ta tb) ρ (.bl (decide (a ∈ as))) := fun H S σ en H1 S1 Q x qq =>
  ha.go (en.lift x) fun v H2 k o => hb.go ((en.lift x).same k) fun u H3 k3 o3 => by
    have dq := o3.dp (K := K) (pl_of_map q.pl as)
    have e : pd (.tup true (as.map f)) = .tuple ((as.map f).map pd) := by
      show PyData.tuple (pdAll (as.map f)) = _
      rw [pdAll_map]
    rw [e] at dq
    have sh : SeqAt.shaped (.tuple ((as.map f).map pd)) = true := by
      have h := q.shaped as
      unfold SeqAt.shaped at h ⊢
      simpa [PyData.canLay0, PyData.depth] using h
    refine ⟨pd (f a), (as.map f).map pd, (o.same k3).dp (q.pl a), dq, q.sh a, sh, ?_⟩
    rw [q.any]
    exact qq _ _ (k.trans k3) (.bl _)
theorem E_notInT (q : Enq f) (ha : Ep ta ρ (f a)) (hb : Ep tb ρ (.tup true (as.map f))) : Ep (tOp (rNotInT K) ta tb) ρ (.bl (!decide (a ∈ as))) := fun H S σ en H1 S1 Q x qq =>
  ha.go (en.lift x) fun v H2 k o => hb.go ((en.lift x).same k) fun u H3 k3 o3 => by
    have dq := o3.dp (K := K) (pl_of_map q.pl as)
    have e : pd (.tup true (as.map f)) = .tuple ((as.map f).map pd) := by
      show PyData.tuple (pdAll (as.map f)) = _
      rw [pdAll_map]
    rw [e] at dq
    have sh : SeqAt.shaped (.tuple ((as.map f).map pd)) = true := by
      have h := q.shaped as
      unfold SeqAt.shaped at h ⊢
      simpa [PyData.canLay0, PyData.depth] using h
    refine ⟨pd (f a), (as.map f).map pd, (o.same k3).dp (q.pl a), dq, q.sh a, sh, ?_⟩
    rw [q.any]
    exact qq _ _ (k.trans k3) (.bl _)
end
section
variable {H0 : Hp} {S0 : AS} {ρ : Rho} {ta : TA} {d e : Dt} {i j : Nat} {O : Eo}
/-- x, y = a, b -/
theorem Sv_par (h : Ea ta ρ [d, e]) (n : O.nx ((ρ.set i (.d d)).set j (.d e))) : Sv H0 S0 (tPar i j ta) ρ O := fun H S σ D en rl kn kr kb kc =>
  h H S σ en H S _ (Lift.refl en.lv) fun vs H2 k o => by
    obtain ⟨v, u, rfl, ov, ou⟩ := o.two
    exact ⟨v, u, rfl, kn _ _ _ _ n (((en.same k).set ov).set ou) (rl.step k (Ow.set.trans Ow.set)) (Mv.same en.lv k)⟩
end
/-! ### l.index(x) -/
def idxA {α : Type} [DecidableEq α] (a : α) : List α → Nat
  | [] => 0
  | b :: r => if b = a then 0 else idxA a r + 1
theorem idxA_get {α : Type} [DecidableEq α] {a : α} : ∀ {as : List α}, a ∈ as → as[idxA a as]? = some a
  | b :: r, h => by
    unfold idxA
    by_cases e : b = a
    · rw [if_pos e, e]; rfl
    · rw [if_neg e, List.getElem?_cons_succ]
      exact idxA_get ((List.mem_cons.mp h).resolve_left fun z => e z.symm)
theorem idxA_no {α : Type} [DecidableEq α] {a : α} : ∀ {as : List α} (m : Nat) (z : α), m < idxA a as → as[m]? = some z → z ≠ a
  | [], m, z, h, _ => absurd h (Nat.not_lt_zero _)
  | b :: r, m, z, h, g => by
    unfold idxA at h
    by_cases e : b = a
    · rw [if_pos e] at h; exact absurd h (Nat.not_lt_zero _)
    · rw [if_neg e] at h
      cases m with
      | zero => cases g; exact e
      | succ m =>
        rw [List.getElem?_cons_succ] at g
        exact idxA_no (as := r) m z (Nat.lt_of_succ_lt_succ h) g
theorem idxA_lt {α : Type} [DecidableEq α] {a : α} {as : List α} (h : a ∈ as) : idxA a as < as.length := (List.getElem?_eq_some_iff.mp (idxA_get h)).1
theorem mt_indexK {X : Cx} (K : PySem.W.Frag) (hu : X.A.units + 65 < cLine) (h : X.K = K := by rfl) : MtR X "list.index" (rIndexD K) := h ▸ mt_indexD hu
section
variable {α : Type} [DecidableEq α] {f : α → Dt} {a : α} {as : List α} {ρ : Rho} {K : PySem.W.Frag} {ta tl : TE}
theorem E_index (q : Enq f) (hl : El tl ρ (as.map f)) (ha : Ep ta ρ (f a)) (hm : a ∈ as) : Ep (tBM K "list" (rIndexD K) tl (tCons ta tNil)) ρ (.int (idxA a as : Nat)) := fun H S σ en H1 S1 Q x qq =>
  hl H1 S1 σ _ (en.lift x) fun c ys H2 k2 hc oc => ⟨.inl ⟨rfl, _, SqL.of hc⟩, ha.go ((en.lift x).same k2) fun v H3 k3 o3 => by
    refine ⟨c, v, pd (f a), (as.map f).map pd, idxA a as, pd (f a), rfl, rfl, .lst (SqL.of (k3 _ _ hc)) (q.dpl (oc.same k3)), o3.dp (q.pl a), q.shaped as, q.sh a, ?_, ?_, fun m z' hm' hz => ?_, qq _ _ (k2.trans k3) (.int _)⟩
    · rw [List.map_map, List.getElem?_map, idxA_get hm]; rfl
    · rw [q.eq]; exact decide_eq_true rfl
    · rw [List.map_map, List.getElem?_map] at hz
      obtain ⟨b, hb, rfl⟩ := Option.map_eq_some_iff.mp hz
      show PyData.eqv (pd (f b)) (pd (f a)) = false
      rw [q.eq]
      exact decide_eq_false (idxA_no m b hm' hb)⟩
end
end Lc

namespace Lc
open PySem PySem.Spec PyProof.Rows L2
section
open PySem.HandSPX
variable {prog : Program} {w : World} {A : Around} {E : Value → Shared → Prop} {R : Result → Shared → Prop} {h : Heap} {g : Array GenState} {d : Drawn} {t : Nat} {os : OsState}
variable {nm q : Str} {C N : Addr} {bs bm bmB : List Value} {hdct : Bool} {sn : List Str} {sub : List Value} {ab : Bool} {col : Option Bool} {dd : Option Addr} {k0 k1 k2 k3 k5 : Option Value} {B newId initId : String} {rest : List Value} {kw : List (Str × Value)}
/-- made by name: the words are no matter to __new__ -/
theorem kw_check {Q : Unit → Shared → Prop} (F : ExcBaseFacts B newId initId bmB) (hT : ∀ X : String, bm.contains (.type X) = bmB.contains (.type X)) (hC : h.get? C = some (excClassObj nm q C N bs bm hdct sn sub ab col dd k0 k1 k2 k3 k5 newId)) (z : Q () ⟨h, g, d, t, os⟩) :
    wpAny (model prog w) A (checkBuiltinCall newId ⟨.ref C :: rest, kw⟩) Q E ⟨h, g, d, t, os⟩ := by
  have inB : (Value.ref C :: bm).contains (.type B) = true := by rw [List.contains_cons, hT, F.hasB, Bool.or_true]
  have st := F.noStar
  simp only [checkBuiltinCall, F.newKind, F.newSplit, F.newRow]
  repeat (first | with_reducible refine wpAny_loadPart_at hC ?_ | (refine wpAny_isSubtype_exc hC ?_; rw [inB]) | refine wpAny_staticBase_exc hC ?_ | refine wpAny_madeBy_exc hC ?_ | simp only [bne_self_eq_false, Bool.false_eq_true, if_false] | wp_step)
  exact z
theorem kw_new (F : ExcBaseFacts B newId initId bmB) (hT : ∀ X : String, bm.contains (.type X) = bmB.contains (.type X)) (hC : h.get? C = some (excClassObj nm q C N bs bm hdct sn sub ab col dd k0 k1 k2 k3 k5 newId)) (hl : rest.length ≤ sizeLine)
    (z : R (.ok (.ret (.ref (h.objs.size + 1)))) ⟨(h.push (PySem.W.kdv_tup rest)).push (excO C h.objs.size), g, d, t, os⟩) : codeAny (model prog w) A (.builtin newId ⟨.ref C :: rest, kw⟩) R ⟨h, g, d, t, os⟩ := by
  have ends := F.ends
  have inB : (Value.ref C :: bm).contains (.type B) = true := by rw [List.contains_cons, hT, F.hasB, Bool.or_true]
  have inA : (Value.ref C :: bm).contains (.type "AttributeError") = false := by rw [List.contains_cons, hT, F.noAttr]; rfl
  have inN : (Value.ref C :: bm).contains (.type "NameError") = false := by rw [List.contains_cons, hT, F.noName]; rfl
  refine codeAny_builtinAt F.entry ?_
  unfold Builtin.«BaseException.__new__»
  refine PySem.wpAt_bind ?_
  show PySem.wpAt _ _ _ (stack >>= _) _ _ _
  refine PySem.wpAt_bind (PySem.wpAt_stack fun p below => PySem.wpAt_of_wpAny ?_)
  wp_walk
  refine PySem.wpAt_of_wpAny ?_
  rw [F.owner]
  repeat (first | with_reducible refine wpAny_madeHere_exc F.canon hC ?_ | with_reducible refine wpAny_loadPart_at hC ?_ | (with_reducible refine wpAny_isSubtype_exc hC ?_; first | rw [inB] | rw [inA] | rw [inN]) | wp_step)
  show R _ _
  rw [Heap.size_push]
  exact z
theorem kw_type (F : ExcBaseFacts B newId initId bmB) (hT : ∀ X : String, bm.contains (.type X) = bmB.contains (.type X)) {fI : Addr} {Q : Fin → Shared → Prop} (hC : h.get? C = some (excClassObj nm q C N bs bm hdct sn sub ab col dd k0 k1 k2 k3 k5 newId))
    (hi : PySem.W.Looks (model prog w) h (typeLookup (.ref C) "__init__") (some (.ref fI))) (hb : ∀ self, PySem.W.Looks (model prog w) h (bindSpecial (.ref fI) self) (.ref fI, [self])) (hl : rest.length ≤ sizeLine)
    (z : codeAny (model prog w) A (.call (.ref fI) ⟨.ref (h.objs.size + 1) :: rest, kw⟩) (fun r s' => match r with | .ok (.ret v) => v = .none ∧ Q (.done (.ret (.ref (h.objs.size + 1)))) s' | .ok _ => False | .error e => E e s') ⟨(h.push (PySem.W.kdv_tup rest)).push (excO C h.objs.size), g, d, t, os⟩) :
    wpAny (model prog w) A (Builtin.«type.__call__» ⟨.ref C :: rest, kw⟩) Q E ⟨h, g, d, t, os⟩ := by
  repeat (first | with_reducible refine wpAny_loadPart_at hC ?_ | with_reducible refine wpAny_madeBy_exc hC ?_ | wp_step)
  refine codeAny_call_builtin_code (Code.quiet_builtin _ F.quiet) (kw_check F hT hC ?_)
  refine kw_new F hT hC hl ?_
  show wpAny _ _ _ _ _ _
  have k : ∀ b o, h.get? b = some o → ((h.push (PySem.W.kdv_tup rest)).push (excO C h.objs.size)).get? b = some o := fun b o e => Heap.get?_push_of_some _ (Heap.get?_push_of_some _ e)
  have C2 := k _ _ hC
  have x2 : ((h.push (PySem.W.kdv_tup rest)).push (excO C h.objs.size)).get? (h.objs.size + 1) = some (excO C h.objs.size) := by heap_get
  have inC : (Value.ref C :: bm).contains (.ref C) = true := by simp
  have i2 := hi.keeps k
  have b2 := (hb (.ref (h.objs.size + 1))).keeps k
  unfold isInstance
  repeat (first | with_reducible refine wpAny_loadPart_at x2 ?_ | (with_reducible refine wpAny_isSubtype_exc C2 ?_; rw [inC]) | wp_step)
  show wpAny _ _ (typeLookup (.ref C) _) _ _ _
  refine i2.at ?_
  refine wpAny_holding (wpAny_bind (b2.at ?_))
  refine wpAny_bind (wpAny_call (codeAny_mono z fun r s' y => ?_))
  rcases r with e | (v | _ | _ | _) <;> first | exact y | exact y.elim | skip
  obtain ⟨rfl, y⟩ := y
  first
    | exact wpAny_pure (wpAny_pure y)
    | (wp_walk; exact y)
theorem kw_tcheck {Q : Unit → Shared → Prop} (hC : h.get? C = some (excClassObj nm q C N bs bm hdct sn sub ab col dd k0 k1 k2 k3 k5 newId)) (z : Q () ⟨h, g, d, t, os⟩) : wpAny (model prog w) A (checkBuiltinCall "type.__call__" ⟨.ref C :: rest, kw⟩) Q E ⟨h, g, d, t, os⟩ := by
  have f3 := tc_sub
  have ty : (⟨h, g, d, t, os⟩ : Shared).TypeIs (.ref C) "type" := ⟨_, hC, rfl⟩
  simp only [checkBuiltinCall, tc_kind, tc_split]
  repeat (any_goals (first | assumption | with_reducible refine wpAny_loadPart_at hC ?_ | with_reducible refine wpAny_onRaise ?_ | with_reducible refine wpAny_map ?_ | wp_step))
theorem kw_own (F : ExcBaseFacts B newId initId bmB) (hT : ∀ X : String, bm.contains (.type X) = bmB.contains (.type X)) {fI : Addr} (hC : h.get? C = some (excClassObj nm q C N bs bm hdct sn sub ab col dd k0 k1 k2 k3 k5 newId))
    (hi : PySem.W.Looks (model prog w) h (typeLookup (.ref C) "__init__") (some (.ref fI))) (hb : ∀ self, PySem.W.Looks (model prog w) h (bindSpecial (.ref fI) self) (.ref fI, [self])) (hl : rest.length ≤ sizeLine)
    (z : codeAny (model prog w) (A.under (.builtin "type.__call__" ⟨.ref C :: rest, kw⟩)) (.call (.ref fI) ⟨.ref (h.objs.size + 1) :: rest, kw⟩) (PySem.W.InitBack (h.objs.size + 1) R) ⟨(h.push (PySem.W.kdv_tup rest)).push (excO C h.objs.size), g, d, t, os⟩) :
    codeAny (model prog w) A (.call (.ref C) ⟨rest, kw⟩) R ⟨h, g, d, t, os⟩ := by
  have f1 := tc_lookup
  have f2 := tc_bind (.ref C)
  have ty : (⟨h, g, d, t, os⟩ : Shared).TypeIs (.ref C) "type" := ⟨_, hC, rfl⟩
  refine codeAny_of_tree ?_
  show wpAny _ _ (callAny (.ref C) _) _ _ _
  repeat (any_goals (first | assumption | with_reducible refine wpAny_loadPart_at hC ?_ | wp_step))
  refine ⟨rfl, ?_⟩
  refine codeAny_call_builtin_at (Code.quiet_builtin _ (by decide +kernel)) entry_typeCall (kw_tcheck hC (kw_type F hT hC hi hb hl ?_))
  refine codeAny_mono z fun r s' y => ?_
  rcases r with e | (v | _ | _ | _) <;> exact y
end

/-- a class of errors, as the written part has it -/
structure Ecl (K : PySem.W.Frag) (C : Addr) (mro : List Value) : Prop where
  cl : ∃ cd, PySem.W.clsIn K C = some cd ∧ cd.mro = mro
  ga : PySem.W.findIn K (.ref C) "__getattribute__" = some (some (.builtin "BaseException.__getattribute__"))
  gg : PySem.W.findIn K (.ref C) "__getattr__" = some none
  gc : PySem.W.findIn K (.ref C) "__class__" = some (some (.builtin "object.__class__"))
theorem Ecl.sub {K : PySem.W.Frag} {C : Addr} {mro : List Value} (E : Ecl K C mro) (ne : mro ≠ []) (b : Value) : PySem.W.subIn K (.ref C) b = some (mro.contains b) := by
  obtain ⟨cd, e, rfl⟩ := E.cl
  show PySem.W.mroIn K C b = _
  unfold PySem.W.mroIn
  rw [e, Option.bind_some]
  have z : cd.mro.isEmpty = false := by
    cases h : cd.mro with
    | nil => exact absurd h ne
    | cons _ _ => rfl
  rw [z]; rfl
/-- an error held: laid without own __init__, or with one that keeps a number by a name -/
def Held (H : Hp) (a C : Addr) : Option (Str × Int) → Prop
  | none => H a = some (ExO (.ref C) a)
  | some (f, n) => ∃ d, H a = some (exo a C (some d)) ∧ H d = some (exd d [(f, .int n)])
def rIsV (K : PySem.W.Frag) : List V → Hp → VK → Prop := fun xs H Q => ∃ (a C : Addr) (o : Option (Str × Int)) (mro : List Value) (c : V) (cv : Value) (b : Bool), xs = [.ref a, c] ∧ (∀ u, RelV c u → u = cv) ∧ Ecl K C mro ∧ mro.contains (.type "BaseException") = true ∧ mro.contains (.type "object") = true ∧
  PySem.W.specialIn K (.builtin "object.__class__") "__get__" = some (some (.builtin "getset_descriptor.__get__")) ∧ PySem.W.takesIn K (.builtin "object.__class__") = some true ∧ Held H a C o ∧ PySem.W.kitOne K (.ref C) cv = some b ∧ Q (.bl b) H
theorem call_isV {X : Cx} (K : PySem.W.Frag) (hK : X.K = K := by rfl) : CallR X (.builtin "isinstance") (rIsV K) := by
  subst hK
  intro pins s σ H xs us Q I r h
  obtain ⟨a, C, o, mro, c, cv, b, rfl, hcv, E, mB, mO, hn, ht, hd, e, q⟩ := h
  have ne : mro ≠ [] := fun z => by rw [z] at mB; cases mB
  obtain ⟨u, v, rfl, ru, rv⟩ := Vals.two r
  cases ru
  have ev := hcv _ rv
  subst ev
  obtain ⟨cd, hcl, _⟩ := E.cl
  have J : ∃ (oe : Obj) (od : Option Obj), PySem.W.InstAt s.heap a oe C od := by
    cases o with
    | none =>
      obtain ⟨⟨oe, vs, ho, hz, hdt, _⟩, _, _⟩ := I.hok a _ hd
      exact ⟨oe, none, ho, hz.1, by unfold PySem.W.notCls; rw [hdt], by rw [hz.2]; trivial⟩
    | some fn =>
      obtain ⟨f, n⟩ := fn
      obtain ⟨d, h1, h2⟩ := hd
      obtain ⟨t1, ho⟩ := exo_at I.hok h1
      obtain ⟨mA, ⟨od, _, _, hod, _⟩, _⟩ := exd_at I.hok h2
      exact ⟨_, some od, ho, rfl, rfl, hod⟩
  obtain ⟨oe, od, J⟩ := J
  exact PySem.W.kia_one (PySem.W.kitx_exc (od := od) (by rw [hcl]; rfl) E.ga E.gg (by rw [E.sub ne, mB]) E.gc hn ht (by have z := E.sub ne (.type "object"); rw [mO] at z; exact z)) I.kIn J e (fun z => nomatch z) fun tk => ⟨.bl b, H, I.kept (t' := tk) fun _ _ z => z, rfl, q⟩
section
variable {X : Cx} {o e : Expr} {es : List Expr} {to te : TE} {ta : TA} {f x : Str} {p p' p1 p2 pos : Pos}
/-- D.__init__(self, ..), D an own class whose __init__ is ValueError's -/
theorem pe_cinit {pl : Sem Bool} {D : Addr} (hg : Gl X x) (hm : X.mg x = some (.ref D)) (h1 : PySem.W.specialIn X.K (.ref D) "__getattribute__" = some (some (.builtin "type.__getattribute__"))) (h2 : PySem.W.typeIn X.K (.ref D) = some (.type "type")) (h3 : PySem.W.readsIn X.K D (.type "type") = true)
    (h4 : PySem.W.findCls X.K (.ref D) (.type "type") "__init__" = some (.val (.builtin "ValueError.__init__"))) (ha : PA X (e :: es) ta)
    (hc : eval (.Call (.Attribute (.Name x p1) "__init__" p2) (e :: es) [] pos) X.env = (do
      let ov ← eval (.Name x p1) X.env
      standAt p2.atName
      let (f, first) ← holding [ov] (getMethod ov "__init__" pl)
      callWith pos f first (backTo pos (starEach (e :: es) X.env)) (backToKw pos (keywordEach [] X.env))) := by rfl)
    (he : starEach (e :: es) X.env = (false, eval e X.env) :: starEach es X.env := by rfl) (hpl : (backTo pos (starEach es X.env)).any (·.1) = false := by rfl) (hdb : (x == ("__debug__" : Str)) = false := by decide) :
    PE X (.Call (.Attribute (.Name x p1) "__init__" p2) (e :: es) [] pos) (tVeI X.K ta) := by
  refine ⟨fun pins s σ H Q I h => ?_⟩
  refine PySem.W.methodCall_KW (ld_glob I hg hm ?_ hdb) hc
  obtain ⟨m, fr⟩ := I.fr
  refine PySem.W.method_of_cls fr I.ok.mod.kin h1 (PySem.W.cls_val fr I.ok.mod.kin h2 h3 h4 (by decide +kernel) ?_)
  refine PyProof.Rows.callWith_method1 (thn (ha.run pos pins _ σ H _ (I.tok _) h) fun us s1 ⟨vs, H1, I1, r1, a, C, ws, ev, hl, T, ea, q⟩ => ?_) he hpl
  subst ev
  cases r1 with
  | @cons _ u0 _ ur ra rw' =>
    obtain rfl : u0 = Value.ref a := ra
    have hlen : ur.length ≤ sizeLine := by
      rw [← Paired.length rw', sizeLine_eq]
      omega
    exact oinit_ok T I1 ea hlen fun s' J => ⟨.non, H1, J, rfl, q⟩
/-- e.f of an error held -/
def tXo (K : PySem.W.Frag) (f : Str) (te : TE) : TE := fun σ H Q => te σ H fun x H1 => ∃ (a C d : Addr) (fs : List (Str × V)) (v : V), x = .ref a ∧ L2.XfC K C ∧ PySem.W.findIn K (.ref C) f = some none ∧ H1 a = some (exo a C (some d)) ∧ H1 d = some (exd d fs) ∧ fs.lookup f = some v ∧ Q v H1
theorem pe_xo (he : PE X e te) (hb : attributeBase e f X.env (eval e X.env) = eval e X.env := by rfl) : PE X (.Attribute e f pos) (tXo X.K f te) := by
  refine ⟨fun pins s σ H Q I h => ?_⟩
  refine attr_of hb (thn (he.run pins s σ H _ I h) fun u s1 hh => ?_)
  obtain ⟨y, H1, I1, ry, a, C, d, fs, v, rfl, T, hno, ea, ed, l, q⟩ := hh
  obtain rfl : u = Value.ref a := ry
  obtain ⟨t1, ho⟩ := exo_at I1.hok ea
  obtain ⟨mA, hns, hr⟩ := exd_at I1.hok ed
  obtain ⟨od, hod, hl⟩ := lookIn_ns hns
  obtain ⟨u, hu, ru⟩ := RelO.some_of (v := v) (o := mA f) (by rw [← l]; exact hr f)
  have J : PySem.W.InstAt s1.heap a { cls := .ref C, dict := some d, data := .fields #[.ref t1, .none, .none, .none, .bool false, .none] } C (some od) := ⟨ho, rfl, rfl, hod⟩
  exact HandSPX.exc_get I1.kIn J T.ga T.gg T.exC (PySem.W.findObj_own T.hdC hno rfl (by rw [hl, hu])) (handed_of ru) ⟨v, H1, I1.tok _, ru, q⟩
end
/-- C(e, ..): made, its __init__ walked, held -/
def tMkV (C : Addr) (sp : Sp) (t : TA) : TE := fun σ H Q => t σ H fun vs H1 => vs.length ≤ 1000 ∧ ∀ a, H1 a = none → sp (.ref a :: vs) (upd H1 a (exo a C none)) (fun v H2 => v = .non ∧ Q (.ref a) H2) (fun _ _ _ => False)
section
variable {X : Cx} {CX : CXT} {C fI : Addr} {k : Nat} {fd : FuncData} {ps ks : List Str} {sp : Sp} {e : Expr} {es : List Expr} {kws : List Keyword} {t : TA} {x : Str} {p pos : Pos}
theorem run_mkV {pins : List (Addr × Obj)} {σ : L2.St} {H : Hp} {s : Shared} {Q : VK} {us : List Value} {kw : List (Str × Value)} {vs : List V} {ws : List Value} (T : OexC X.K C) (iC : PySem.W.findIn X.K (.ref C) "__init__" = some (some (.ref fI))) (tI : PySem.W.typeIn X.K (.ref fI) = some (.type "function"))
    (F : FnOk X.prog X.w X.K X.mg X.base CX k fI fd ps sp) (hr : Room (k + 1) X.A) (hb : ∀ (s : Shared) (a : Addr), X.K.In s.heap → BindsTo s fd ⟨.ref a :: us, kw⟩ (ps.zip (.ref a :: ws))) (hx : Passes CX X (fun _ _ _ => False)) (I : Inv X pins σ H s) (r : Vals vs ws) (hl : us.length ≤ sizeLine)
    (h : ∀ a, H a = none → sp (.ref a :: vs) (upd H a (exo a C none)) (fun v H2 => v = .non ∧ Q (.ref a) H2) (fun _ _ _ => False)) :
    wpAny (model X.prog X.w) X.A (call (.ref C) us kw) (EP X pins σ Q) X.xe s := by
  obtain ⟨nm, q, N, bs, bm, sn, sub, ab, col, dd, k0, k1, k2, k3, k5, hC, hbm⟩ := T.cls
  obtain ⟨hp, g, dr, tk, os⟩ := s
  have hsz : hp.objs.size ≤ hp.objs.size + 1 := Nat.le_succ _
  have hq := h (hp.objs.size + 1) (I.hok.fresh hsz)
  have kk : ∀ b o, hp.get? b = some o → ((hp.push (PySem.W.kdv_tup us)).push (PySem.HandSPX.excO C hp.objs.size)).get? b = some o := fun b o e => Heap.get?_push_of_some _ (Heap.get?_push_of_some _ e)
  have hget : ((hp.push (PySem.W.kdv_tup us)).push (PySem.HandSPX.excO C hp.objs.size)).get? (hp.objs.size + 1) = some (PySem.HandSPX.excO C hp.objs.size) := by heap_get
  have I2 : Inv X pins σ (upd H (hp.objs.size + 1) (exo (hp.objs.size + 1) C none)) ⟨(hp.push (PySem.W.kdv_tup us)).push (PySem.HandSPX.excO C hp.objs.size), g, dr, tk, os⟩ :=
    I.laid (t' := tk) (a := hp.objs.size + 1) (o := exo (hp.objs.size + 1) C none) (h' := (hp.push (PySem.W.kdv_tup us)).push (PySem.HandSPX.excO C hp.objs.size)) kk hsz (exo_ok hget)
  have r2 : Vals (V.ref (hp.objs.size + 1) :: vs) (Value.ref (hp.objs.size + 1) :: ws) := .cons rfl r
  refine wpAny_call (kw_own PySem.F.excBase_ValueError (fun Y => PySem.HandSPX.refsVE_contains Y bm hbm) (I.kIn _ _ hC) (PySem.W.looks_findIn I.kIn iC) (fun self => PySem.W.bind_fn I.kIn self tI) hl
    (codeAny_mono (F.run _ X.stack _ _ ⟨Value.ref (hp.objs.size + 1) :: us, kw⟩ (Value.ref (hp.objs.size + 1) :: ws) _ _ (fun _ _ _ => False) (hr.make C us kw) (I2.env0.make C us kw) (hb _ _ I2.kIn) r2 hq) fun r s' hq' => ?_))
  cases r with
  | error er => exact hx pins σ _ _ er s' I2 hq'
  | ok fl =>
    cases fl with
    | ret u =>
      obtain ⟨v, H', I3, rv, ev, q3⟩ := I2.after hq'
      subst ev
      exact ⟨rv, ⟨V.ref (hp.objs.size + 1), H', I3, rfl, q3⟩⟩
    | next => exact False.elim hq'
    | brk => exact False.elim hq'
    | cont => exact False.elim hq'
theorem pe_mkV (T : OexC X.K C) (iC : PySem.W.findIn X.K (.ref C) "__init__" = some (some (.ref fI))) (tI : PySem.W.typeIn X.K (.ref fI) = some (.type "function")) (F : FnOk X.prog X.w X.K X.mg X.base CX k fI fd ps sp) (hr : Room (k + 1) X.A) (hb : ∀ (s : Shared) (us : List Value), us.length = ps.length → BindsTo s fd ⟨us, []⟩ (ps.zip us)) (hx : Passes CX X (fun _ _ _ => False))
    (hg : Gl X x) (hm : X.mg x = some (.ref C)) (ha : PA X (e :: es) t) (hdb : (x == ("__debug__" : Str)) = false := by decide) (he : starEach (e :: es) X.env = (false, eval e X.env) :: starEach es X.env := by rfl) (hpl : (backTo pos (starEach es X.env)).any (·.1) = false := by rfl) :
    PE X (.Call (.Name x p) (e :: es) [] pos) (tMkV C sp t) := by
  refine ⟨fun pins s σ H Q I h => ?_⟩
  refine wpAny_Call_Name_kw (ld_glob I hg hm ?_ hdb)
  refine PySem.W.callWith_K (h₀ := X.base) I.ok.mod.kin T.kC (thn (ha.run pos pins s σ H _ I h) fun us s1 ⟨vs, H1, I1, r1, hz, q1⟩ => ⟨I1.kIn, ?_⟩) he hpl
  have hl : us.length ≤ sizeLine := by
    rw [← Paired.length r1, sizeLine_eq]
    omega
  have hw : us.length + 1 = ps.length := by
    have e := F.len _ _ _ _ (q1 _ (I1.hok.fresh (Nat.le_refl _)))
    have e2 := Paired.length r1
    simp only [List.length_cons] at e
    omega
  exact run_mkV T iC tI F hr (fun s a _ => hb s _ hw) hx I1 r1 hl q1
theorem pe_mkVK (T : OexC X.K C) (iC : PySem.W.findIn X.K (.ref C) "__init__" = some (some (.ref fI))) (tI : PySem.W.typeIn X.K (.ref fI) = some (.type "function")) (F : FnOk X.prog X.w X.K X.mg X.base CX k fI fd ps sp) (hr : Room (k + 1) X.A)
    (hb : ∀ (s : Shared) (a : Addr) (ws : List Value), ws.length = ks.length → BindsTo s fd ⟨[.ref a], ks.zip ws⟩ (ps.zip (.ref a :: ws))) (hx : Passes CX X (fun _ _ _ => False)) (hg : Gl X x) (hm : X.mg x = some (.ref C)) (hkw : PK X kws t) (hkl : ks.length + 1 = ps.length)
    (hall : (backToKw pos (keywordEach kws X.env)).all (·.1.isSome) = true := by rfl) (hks : (backToKw pos (keywordEach kws X.env)).filterMap (·.1) = ks := by rfl) (hdb : (x == ("__debug__" : Str)) = false := by decide)
    (hpl : ((backTo pos (starEach [] X.env)).any (·.1) || (backToKw pos (keywordEach kws X.env)).any (·.1.isNone)) = false := by rfl) :
    PE X (.Call (.Name x p) [] kws pos) (tMkV C sp t) := by
  refine ⟨fun pins s σ H Q I h => ?_⟩
  refine wpAny_Call_Name_kw (ld_glob I hg hm ?_ hdb)
  refine PySem.W.callWith_KW0 (h₀ := X.base) I.ok.mod.kin T.kC hall ?_ hpl
  refine thn (hkw.run pos pins s σ H _ I h) fun ws s1 ⟨vs, H1, I1, r1, hz, q1⟩ => ⟨I1.kIn, ?_⟩
  rw [hks]
  have hw : ws.length = ks.length := by
    have e := F.len _ _ _ _ (q1 _ (I1.hok.fresh (Nat.le_refl _)))
    have e2 := Paired.length r1
    simp only [List.length_cons] at e
    omega
  exact run_mkV T iC tI F hr (fun s a _ => hb s a ws hw) hx I1 r1 (Nat.zero_le _) q1
end
end Lc

namespace Lc
open PySem PySem.Spec PyProof.Rows L2
/-- a clause's wish: with a name's slot, or without -/
structure Cl where
  (c : Value) (slot : Option Nat) (ts : Addr → Value → Option Addr → TS)
def clD (D : Ends) : Option Nat → Ends
  | none => D
  | some i => { nx := fun σ H => D.nx (σ.set i none) H, rt := D.rt, bk := fun σ H => D.bk (σ.set i none) H, ct := fun σ H => D.ct (σ.set i none) H }
def clS (a : Addr) (σ : L2.St) : Option Nat → L2.St
  | none => σ
  | some i => σ.set i (some (.ref a))
def wMix (K : PySem.W.Frag) (Wout : WX) (D : Ends) : List Cl → WX
  | [] => Wout
  | l :: r => fun cls d σ H => ∃ b, PySem.W.exmOne K cls l.c = some b ∧ (b = true → ∀ a, H a = none → l.ts a cls d (clD D l.slot) (clS a σ l.slot) H) ∧ (b = false → wMix K Wout D r cls d σ H)
inductive MixOk (X : Cx) : List ExceptHandler → List Cl → Prop
  | nil : MixOk X [] []
  | plain {x : Str} {c : Value} {ts : Addr → Value → Option Addr → TS} {b₀ : Stmt} {ss : List Stmt} {np q : Pos} {hds : List ExceptHandler} {l : List Cl} (hc : Names X x c)
      (hsu : ∀ (a : Addr) (oe : Obj) (cls : Value) (d : Option Addr) (pn : List (Addr × Obj)), Zc cls d oe → (∃ vs, oe.data = .fields vs) → PSs (X.suite a ((a, oe) :: pn)) (b₀ :: ss) (ts a cls d)) (r : MixOk X hds l) :
      MixOk X (.ExceptHandler (some (.Name x np)) none (b₀ :: ss) q :: hds) (⟨c, none, ts⟩ :: l)
  | named {x n : Str} {i : Nat} {c : Value} {ts : Addr → Value → Option Addr → TS} {b₀ : Stmt} {ss : List Stmt} {np q : Pos} {hds : List ExceptHandler} {l : List Cl} (hc : Names X x c) (hi : X.N[i]? = some n) (hl : X.env.kindOf n = some .local)
      (hsu : ∀ (a : Addr) (oe : Obj) (cls : Value) (d : Option Addr) (pn : List (Addr × Obj)), Zc cls d oe → (∃ vs, oe.data = .fields vs) → PSs (X.suite a ((a, oe) :: pn)) (b₀ :: ss) (ts a cls d)) (r : MixOk X hds l) :
      MixOk X (.ExceptHandler (some (.Name x np)) (some n) (b₀ :: ss) q :: hds) (⟨c, some i, ts⟩ :: l)
section
variable {X : Cx} {body : List Stmt} {h₀ : ExceptHandler} {hds : List ExceptHandler} {l : List Cl} {pos : Pos} {tb : WX → TS}
/-- try with clauses of both forms; what none of them takes mustn't come -/
theorem ps_try_mix (hs : X.stack = X.env :: X.outer) (hf : X.env.frame = some X.env.locals) (hN : X.N.Nodup)
    (hb : ∀ (W : WX) (pn : List (Addr × Obj)) (xe : Value → Shared → Prop), Takes (X.tr pn xe) W → PassesOwn (model X.prog X.w) X.A X.env xe → PSs (X.tr pn xe) body (tb W))
    (hh : MixOk X (h₀ :: hds) l) : PS X (.Try body (h₀ :: hds) [] [] pos) (fun D σ H => tb (wMix X.K (fun _ _ _ _ => False) D l) D σ H) := by
  refine ⟨fun pins s σ H D I h => ?_⟩
  have ok := I.ok
  refine wpAny_Try_except (wpAny_mono ((hb (wMix X.K (fun _ _ _ _ => False) D l) (X.pn ++ pins) (fun e t1 => wpAny (model X.prog X.w) X.A (noteFrame e X.env) (fun _ t2 => wpAny (model X.prog X.w) X.A (setFlight e none) (fun _ t3 =>
    wpAny (model X.prog X.w) X.A (handleBy e X.env (h₀ :: hds)) (SP X pins D) X.xe t3) X.xe t2) X.xe t1) (fun u t xx => ?_) PassesOwn.looking).run [] s σ H D (I.toTry _) h) (fun f t q => ?_) fun e t z => z)
  · obtain ⟨a, B, sI, _, σ1, H1, cls, d, rfl, Jt, nb, u0, sky, na, os, ag, w⟩ := xx
    have J := Jt.ofTry ok
    rw [hs] at sky
    refine Sky.land Zc.steady (by rw [ok.frames, hs]) hf sky fun g fl u1 => ?_
    obtain ⟨oe, ov, ho, hz, hd⟩ := fl.there
    have out : a ∉ frs (X.env :: X.outer) := fun hm => by
      obtain ⟨_, o2, e2, hnf⟩ := fl.2.2.1.mem hm
      rw [ho] at e2; cases e2
      exact hnf _ hd
    have nL : a ≠ X.env.locals := fun z => out (List.mem_filterMap.mpr ⟨X.env, List.mem_cons_self, by rw [hf, z]⟩)
    have nF : a ∉ X.fs := fun hm => by
      obtain ⟨e, he, z⟩ := List.mem_filterMap.mp hm
      exact out (List.mem_filterMap.mpr ⟨e, List.mem_cons_of_mem _ he, z⟩)
    have J3 : Inv X pins σ1 H1 { t with heap := g } := J.landed nb fl.1 (u0.trans u1) os ag
    have S3 := J3.suite ho hd na nL nF
    have look : ∀ {x : Str} {c : Value} {np : Pos} {Q : Value → Shared → Prop} {E : Value → Shared → Prop}, Names X x c → Q c { t with heap := g } → wpAny (model X.prog X.w) (X.A.mark (some (.ref a))) (eval (.Name x np) X.env) Q E { t with heap := g } := fun {x c np Q E} hc z => by
      obtain ⟨hg, hdb, hm | ⟨hm, hv, hnn⟩⟩ := hc
      · exact ld_glob (X := X.suite a ((a, oe) :: (X.pn ++ pins))) S3 hg hm z hdb
      · exact ld_blt (X := X.suite a ((a, oe) :: (X.pn ++ pins))) S3 hg hm hv z hnn hdb
    have LT : PySem.W.Looks (model X.prog X.w) g (typeOf (.ref a)) cls := fun A Q E s k z => wpAny_typeOf_ref (k _ _ ho) (by rw [hz.1]; exact z)
    have go : ∀ {hds' : List ExceptHandler} {l' : List Cl}, MixOk X hds' l' → wMix X.K (fun _ _ _ _ => False) D l' cls d σ1 H1 → wpAny (model X.prog X.w) X.A (handleBy (.ref a) X.env hds') (SP X pins D) X.xe { t with heap := g } := by
      intro hds' l' hk
      induction hk with
      | nil => exact fun w => w.elim
      | @plain x c ts b₀ ss np q hds2 l2 hc hsu r ih =>
        rintro ⟨b, hb1, hy, hn⟩
        refine wpAny_handleBy_cons (codeAny_handlers_test ?_) (by intro z; cases z)
        refine look hc ((PySem.W.exm_one (M := model X.prog X.w) J3.kIn LT hb1).here ?_)
        cases b with
        | false => exact ih (hn rfl)
        | true =>
          refine codeAny_handlers_suite (HandSPX.lands_againZ fl fun g4 fl4 u4 => ?_)
          obtain ⟨oe4, _, ho4, hz4, hd4⟩ := fl4.there
          have J4 : Inv X pins σ1 H1 { t with heap := g4 } := J.landed nb fl4.1 ((u0.trans u1).trans u4) os ag
          have S4 := J4.suite ho4 hd4 na nL nF
          refine wpAny_mono ((hsu a oe4 cls d (X.pn ++ pins) hz4 ⟨_, hd4⟩).run [] _ _ H1 _ S4 (hy rfl a na)) (fun f t6 z => ?_) (fun _ _ z => False.elim z)
          cases f with
          | ret u => obtain ⟨v6, σ6, H6, S6, r6, q6⟩ := z; exact ⟨_, _, _, S6.unsuite ok, r6, q6⟩
          | next => obtain ⟨σ6, H6, S6, q6⟩ := z; exact ⟨_, _, S6.unsuite ok, q6⟩
          | brk => obtain ⟨σ6, H6, S6, q6⟩ := z; exact ⟨_, _, S6.unsuite ok, q6⟩
          | cont => obtain ⟨σ6, H6, S6, q6⟩ := z; exact ⟨_, _, S6.unsuite ok, q6⟩
      | @named x n i c ts b₀ ss np q hds2 l2 hc hi hl hsu r ih =>
        rintro ⟨b, hb1, hy, hn⟩
        refine wpAny_handleBy_cons (codeAny_handlers_test ?_) (by intro z; cases z)
        refine look hc ((PySem.W.exm_one (M := model X.prog X.w) J3.kIn LT hb1).here ?_)
        cases b with
        | false => exact ih (hn rfl)
        | true =>
          refine codeAny_handlers_suite_as (HandSPX.lands_againZ fl fun g4 fl4 u4 => ?_)
          obtain ⟨oe4, _, ho4, hz4, hd4⟩ := fl4.there
          have J4 : Inv X pins σ1 H1 { t with heap := g4 } := J.landed nb fl4.1 ((u0.trans u1).trans u4) os ag
          have S4 := J4.suite ho4 hd4 na nL nF
          refine store_ok (X := X.suite a ((a, oe4) :: (X.pn ++ pins))) (v := .ref a) S4 hN hi (.inl hl) rfl (fun t5 S5 => ?_) (.inr hl)
          refine wpAny_mono ((hsu a oe4 cls d (X.pn ++ pins) hz4 ⟨_, hd4⟩).run [] t5 _ H1 _ S5 (hy rfl a na)) (fun f t6 z => ?_) (fun _ _ z => False.elim z)
          cases f with
          | ret u => obtain ⟨v6, σ6, H6, S6, r6, q6⟩ := z; exact gone_ok (S6.unsuite ok) hN hi hl fun t7 J7 => ⟨_, _, _, J7, r6, q6⟩
          | next => obtain ⟨σ6, H6, S6, q6⟩ := z; exact gone_ok (S6.unsuite ok) hN hi hl fun t7 J7 => ⟨_, _, J7, q6⟩
          | brk => obtain ⟨σ6, H6, S6, q6⟩ := z; exact gone_ok (S6.unsuite ok) hN hi hl fun t7 J7 => ⟨_, _, J7, q6⟩
          | cont => obtain ⟨σ6, H6, S6, q6⟩ := z; exact gone_ok (S6.unsuite ok) hN hi hl fun t7 J7 => ⟨_, _, J7, q6⟩
    exact go hh w
  · cases f with
    | ret u => obtain ⟨v, σ', H', J', r, q⟩ := q; exact ⟨v, σ', H', J'.ofTry ok, r, q⟩
    | next => obtain ⟨σ', H', J', q⟩ := q; exact wpAny_execs_nil ⟨σ', H', J'.ofTry ok, q⟩
    | brk => obtain ⟨σ', H', J', q⟩ := q; exact ⟨σ', H', J'.ofTry ok, q⟩
    | cont => obtain ⟨σ', H', J', q⟩ := q; exact ⟨σ', H', J'.ofTry ok, q⟩
end
end Lc

namespace Rx
open PySem PySem.Spec PyProof.Rows L2 RZ PySem.W
open Lc (Tp AS And1 ButS Lv)
/-! ### data -/
/-- data that no longer change -/
inductive D where
  | non | bl (b : Bool) | int (i : Int) | str (s : Str) | tup (xs : List D) | lst (xs : List D)
  | dic (ks : List Key) (xs : List D) | ins (c : Nat) (ns : List Str) (xs : List D) | fn (n : Nat) | scr (ns : List Int) | ad (a : Addr)
/-- what a slot holds: nothing known, a datum, an object of its own that may change -/
inductive T where
  | no | fz (d : D) | ol (ds : List D) | od (ks : List Key) (ds : List D) | ll (ts : List T) | oi (c : Nat) (ns : List Str) (ts : List T) | lr (vs : List V)
structure Gx where
  K : PySem.W.Frag
  cl : Nat → Addr
  fa : Nat → Addr
/-- a tuple of the written part, without a dict of its own -/
def LstK (K : PySem.W.Frag) (a : Addr) (xs : List V) : Prop := ∃ (o : Obj) (its : Array Value) (n : Nat), K.lookup a = some o ∧ o.cls = .type "list" ∧ o.dict = none ∧ o.data = .seq its n ∧ its.size ≤ sizeLine ∧ Vals xs its.toList
def TupK (K : PySem.W.Frag) (a : Addr) (xs : List V) : Prop := ∃ (o : Obj) (its : Array Value) (n : Nat), K.lookup a = some o ∧ o.cls = .type "tuple" ∧ o.dict = none ∧ o.data = .seq its n ∧ its.size ≤ sizeLine ∧ Vals xs its.toList
mutual
inductive Oc (G : Gx) (H : Hp) (S : AS) : V → D → Prop where
  | non : Oc G H S .non .non
  | bl (b : Bool) : Oc G H S (.bl b) (.bl b)
  | int (i : Int) : Oc G H S (.int i) (.int i)
  | str (s : Str) : Oc G H S (.str s) (.str s)
  | lst {a : Addr} {vs : List V} {ds : List D} (e : H a = some (.lst vs)) (ne : ¬ S a) (all : Ocs G H S vs ds) : Oc G H S (.ref a) (.lst ds)
  | tup {a : Addr} {vs : List V} {ds : List D} (e : Tp H a true vs) (ne : ¬ S a) (all : Ocs G H S vs ds) : Oc G H S (.ref a) (.tup ds)
  | tupK {a : Addr} {vs : List V} {ds : List D} (e : TupK G.K a vs) (all : Ocs G H S vs ds) : Oc G H S (.ref a) (.tup ds)
  | dic {a : Addr} {ks : List Key} {vs : List V} {ds : List D} (e : H a = some (.dK (ks.zip vs))) (l : ks.length = vs.length) (ne : ¬ S a) (all : Ocs G H S vs ds) : Oc G H S (.ref a) (.dic ks ds)
  | ins {a dx : Addr} {c : Nat} {ns : List Str} {vs : List V} {ds : List D} (e : H a = some (.ins (G.cl c) dx (ns.zip vs))) (l : ns.length = vs.length) (ne : ¬ S a) (all : Ocs G H S vs ds) : Oc G H S (.ref a) (.ins c ns ds)
  | fn (n : Nat) : Oc G H S (.ref (G.fa n)) (.fn n)
  | scr {a : Addr} {ns : List Int} (e : Rd H a (.lst (ns.map V.int))) (ne : ¬ S a) : Oc G H S (.ref a) (.scr ns)
  | scrK {a : Addr} {ns : List Int} (e : LstK G.K a (ns.map V.int)) : Oc G H S (.ref a) (.scr ns)
  | ad (a : Addr) : Oc G H S (.ref a) (.ad a)
inductive Ocs (G : Gx) (H : Hp) (S : AS) : List V → List D → Prop where
  | nil : Ocs G H S [] []
  | cons {v : V} {d : D} {vs : List V} {ds : List D} (h : Oc G H S v d) (t : Ocs G H S vs ds) : Ocs G H S (v :: vs) (d :: ds)
end
/-- what stands off S stays, and stays off -/
structure Up (H : Hp) (S : AS) (H' : Hp) (S' : AS) : Prop where
  but : ButS S H H'
  off : ∀ a, H a ≠ none → ¬ S a → ¬ S' a
theorem Tp.up {H H' : Hp} {S S' : AS} {a : Addr} {vs : List V} (u : Up H S H' S') (e : Tp H a true vs) (ne : ¬ S a) : Tp H' a true vs ∧ ¬ S' a := by
  cases e with
  | bare c d e => exact ⟨.bare c d (u.but _ _ ne e), u.off _ (by rw [e]; exact fun z => nomatch z) ne⟩
theorem Rd.up {H H' : Hp} {S S' : AS} {a : Addr} {o : HO} (u : Up H S H' S') (e : Rd H a o) (ne : ¬ S a) : Rd H' a o ∧ ¬ S' a := by
  rcases e with e | ⟨ob, e⟩
  · exact ⟨.inl (u.but _ _ ne e), u.off _ (by rw [e]; exact fun z => nomatch z) ne⟩
  · exact ⟨.inr ⟨ob, u.but _ _ ne e⟩, u.off _ (by rw [e]; exact fun z => nomatch z) ne⟩
mutual
theorem Oc.up {G : Gx} {H H' : Hp} {S S' : AS} (u : Up H S H' S') : ∀ {v : V} {d : D}, Oc G H S v d → Oc G H' S' v d
  | _, _, .non => .non
  | _, _, .bl b => .bl b
  | _, _, .int i => .int i
  | _, _, .str s => .str s
  | _, _, .lst e ne all => .lst (u.but _ _ ne e) (u.off _ (by rw [e]; exact fun z => nomatch z) ne) (Ocs.up u all)
  | _, _, .tup e ne all => .tup (Tp.up u e ne).1 (Tp.up u e ne).2 (Ocs.up u all)
  | _, _, .tupK e all => .tupK e (Ocs.up u all)
  | _, _, .dic e l ne all => .dic (u.but _ _ ne e) l (u.off _ (by rw [e]; exact fun z => nomatch z) ne) (Ocs.up u all)
  | _, _, .ins e l ne all => .ins (u.but _ _ ne e) l (u.off _ (by rw [e]; exact fun z => nomatch z) ne) (Ocs.up u all)
  | _, _, .fn n => .fn n
  | _, _, .scr e ne => .scr (Rd.up u e ne).1 (Rd.up u e ne).2
  | _, _, .scrK e => .scrK e
  | _, _, .ad a => .ad a
theorem Ocs.up {G : Gx} {H H' : Hp} {S S' : AS} (u : Up H S H' S') : ∀ {vs : List V} {ds : List D}, Ocs G H S vs ds → Ocs G H' S' vs ds
  | _, _, .nil => .nil
  | _, _, .cons h t => .cons (Oc.up u h) (Ocs.up u t)
end
theorem Up.refl (H : Hp) (S : AS) : Up H S H S := ⟨fun _ _ _ e => e, fun _ _ ne => ne⟩
theorem Up.trans {H H1 H2 : Hp} {S S1 S2 : AS} (a : Up H S H1 S1) (b : Up H1 S1 H2 S2) : Up H S H2 S2 :=
  ⟨fun c o ne e => b.but c o (a.off c (by rw [e]; exact fun z => nomatch z) ne) (a.but c o ne e), fun c n ne => by
    cases e : H c with
    | none => exact absurd e n
    | some o => exact b.off c (by rw [a.but c o ne e]; exact fun z => nomatch z) (a.off c n ne)⟩
theorem Up.same {H H' : Hp} {S : AS} (k : Same H H') : Up H S H' S := ⟨fun c o _ e => k c o e, fun _ _ ne => ne⟩
/-- an address of its own more -/
theorem Up.add {H H' : Hp} {S : AS} {p : Addr} (k : Same H H') (n : H p = none) : Up H S H' (And1 S p) :=
  ⟨fun c o _ e => k c o e, fun c h ne z => z.elim ne fun e => h (e ▸ n)⟩
theorem Up.sub {H : Hp} {S S' : AS} (k : ∀ a, S' a → S a) : Up H S H S' := ⟨fun _ _ _ e => e, fun a _ ne z => ne (k a z)⟩
theorem Up.put {H : Hp} {S : AS} {a : Addr} {o : HO} (h : S a) : Up H S (upd H a o) S := ⟨fun c u ne e => by
  rw [upd_ne (fun z => ne (by rw [z]; exact h))]; exact e, fun _ _ ne => ne⟩
section
variable {G : Gx} {H H' : Hp} {S S' : AS} {v : V} {d : D} {vs : List V} {ds : List D}
theorem Ocs.len : ∀ {vs : List V} {ds : List D}, Ocs G H S vs ds → vs.length = ds.length
  | _, _, .nil => rfl
  | _, _, .cons _ t => congrArg Nat.succ (Ocs.len t)
theorem Ocs.get : ∀ {vs : List V} {ds : List D} {i : Nat} {d : D}, Ocs G H S vs ds → ds[i]? = some d → ∃ v, vs[i]? = some v ∧ Oc G H S v d
  | _, _, _, _, .nil, e => by simp at e
  | _, _, 0, _, .cons h _, e => by
    have e := Option.some.inj (show some _ = some _ from e)
    subst e; exact ⟨_, rfl, h⟩
  | _, _, i + 1, x, .cons _ t, e => Ocs.get (i := i) t (by simpa using e)
theorem Ocs.at : ∀ {vs : List V} {ds : List D} {i : Nat} {v : V}, Ocs G H S vs ds → vs[i]? = some v → ∃ d, ds[i]? = some d ∧ Oc G H S v d
  | _, _, _, _, .nil, e => by simp at e
  | _, _, 0, _, .cons h _, e => by
    have e := Option.some.inj (show some _ = some _ from e)
    subst e; exact ⟨_, rfl, h⟩
  | _, _, i + 1, x, .cons _ t, e => Ocs.at (i := i) t (by simpa using e)
theorem Ocs.append : ∀ {vs ws : List V} {ds es : List D}, Ocs G H S vs ds → Ocs G H S ws es → Ocs G H S (vs ++ ws) (ds ++ es)
  | _, _, _, _, .nil, s => s
  | _, _, _, _, .cons h t, s => .cons h (Ocs.append t s)
theorem Ocs.take : ∀ (n : Nat) {vs : List V} {ds : List D}, Ocs G H S vs ds → Ocs G H S (vs.take n) (ds.take n)
  | 0, _, _, _ => .nil
  | _ + 1, _, _, .nil => .nil
  | n + 1, _, _, .cons h t => .cons h (Ocs.take n t)
theorem Ocs.drop : ∀ (n : Nat) {vs : List V} {ds : List D}, Ocs G H S vs ds → Ocs G H S (vs.drop n) (ds.drop n)
  | 0, _, _, h => h
  | _ + 1, _, _, .nil => .nil
  | n + 1, _, _, .cons _ t => Ocs.drop n t
theorem Ocs.set : ∀ (n : Nat) {vs : List V} {ds : List D}, Ocs G H S vs ds → Oc G H S v d → Ocs G H S (vs.set n v) (ds.set n d)
  | _, _, _, .nil, _ => .nil
  | 0, _, _, .cons _ t, o => .cons o t
  | n + 1, _, _, .cons h t, o => .cons h (Ocs.set n t o)
theorem Ocs.rev : ∀ {vs : List V} {ds : List D}, Ocs G H S vs ds → Ocs G H S vs.reverse ds.reverse
  | _, _, .nil => .nil
  | _, _, .cons h t => by
    rw [List.reverse_cons, List.reverse_cons]
    exact Ocs.append (Ocs.rev t) (.cons h .nil)
theorem Oc.int_inv {i : Int} (h : Oc G H S v (.int i)) : v = .int i := by cases h; rfl
theorem Oc.bl_inv {i : Bool} (h : Oc G H S v (.bl i)) : v = .bl i := by cases h; rfl
theorem Oc.str_inv {i : Str} (h : Oc G H S v (.str i)) : v = .str i := by cases h; rfl
theorem Oc.scr_inv {ns : List Int} (h : Oc G H S v (.scr ns)) : ∃ a, v = .ref a ∧ SqL G.K H a (ns.map V.int) := by
  cases h with
  | scr e _ => exact ⟨_, rfl, .inl e⟩
  | scrK e => exact ⟨_, rfl, .inr e⟩
theorem Oc.non_inv (h : Oc G H S v .non) : v = .non := by cases h; rfl
theorem Oc.lst_inv (h : Oc G H S v (.lst ds)) : ∃ a vs, v = .ref a ∧ H a = some (.lst vs) ∧ ¬ S a ∧ Ocs G H S vs ds := by
  cases h with
  | lst e ne all => exact ⟨_, _, rfl, e, ne, all⟩
theorem TupK.sq {K : PySem.W.Frag} {a : Addr} {xs : List V} (h : TupK K a xs) : SqT K H a xs := by
  obtain ⟨o, its, n, h1, h2, _, h3, h4, h5⟩ := h
  exact .inr ⟨o, its, n, h1, h2, h3, h4, h5⟩
theorem Oc.tup_inv (h : Oc G H S v (.tup ds)) : ∃ a vs, v = .ref a ∧ SqT G.K H a vs ∧ Ocs G H S vs ds := by
  cases h with
  | tup e ne all => exact ⟨_, _, rfl, e.sq, all⟩
  | tupK e all => exact ⟨_, _, rfl, e.sq, all⟩
end
/-! ### trees of one's own -/
mutual
inductive Ow (G : Gx) (H : Hp) (S : AS) : Option V → T → List Addr → Prop where
  | no {v : Option V} : Ow G H S v .no []
  | fz {v : V} {d : D} (h : Oc G H S v d) : Ow G H S (some v) (.fz d) []
  | ol {a : Addr} {vs : List V} {ds : List D} (e : H a = some (.lst vs)) (all : Ocs G H S vs ds) : Ow G H S (some (.ref a)) (.ol ds) [a]
  | od {a : Addr} {ks : List Key} {vs : List V} {ds : List D} (e : H a = some (.dK (ks.zip vs))) (l : ks.length = vs.length) (all : Ocs G H S vs ds) : Ow G H S (some (.ref a)) (.od ks ds) [a]
  | ll {a : Addr} {vs : List V} {ts : List T} {A : List Addr} (e : H a = some (.lst vs)) (all : Ows G H S vs ts A) : Ow G H S (some (.ref a)) (.ll ts) (a :: A)
  | oi {a dx : Addr} {c : Nat} {ns : List Str} {vs : List V} {ts : List T} {A : List Addr} (e : H a = some (.ins (G.cl c) dx (ns.zip vs))) (l : ns.length = vs.length) (all : Ows G H S vs ts A) : Ow G H S (some (.ref a)) (.oi c ns ts) (a :: A)
  | lr {a : Addr} {vs : List V} (e : H a = some (.lst vs)) : Ow G H S (some (.ref a)) (.lr vs) [a]
inductive Ows (G : Gx) (H : Hp) (S : AS) : List V → List T → List Addr → Prop where
  | nil : Ows G H S [] [] []
  | cons {v : V} {t : T} {vs : List V} {ts : List T} {A B : List Addr} (h : Ow G H S (some v) t A) (r : Ows G H S vs ts B) : Ows G H S (v :: vs) (t :: ts) (A ++ B)
end
mutual
theorem Ow.up {G : Gx} {H H' : Hp} {S S' : AS} (u : Up H S H' S') : ∀ {v : Option V} {t : T} {A : List Addr}, Ow G H S v t A → (∀ a ∈ A, H' a = H a) → Ow G H' S' v t A
  | _, _, _, .no, _ => .no
  | _, _, _, .fz h, _ => .fz (h.up u)
  | _, _, _, .ol e all, k => .ol ((k _ List.mem_cons_self).trans e) (all.up u)
  | _, _, _, .od e l all, k => .od ((k _ List.mem_cons_self).trans e) l (all.up u)
  | _, _, _, .ll e all, k => .ll ((k _ List.mem_cons_self).trans e) (Ows.up u all fun a h => k a (List.mem_cons_of_mem _ h))
  | _, _, _, .oi e l all, k => .oi ((k _ List.mem_cons_self).trans e) l (Ows.up u all fun a h => k a (List.mem_cons_of_mem _ h))
  | _, _, _, .lr e, k => .lr ((k _ List.mem_cons_self).trans e)
theorem Ows.up {G : Gx} {H H' : Hp} {S S' : AS} (u : Up H S H' S') : ∀ {v : List V} {t : List T} {A : List Addr}, Ows G H S v t A → (∀ a ∈ A, H' a = H a) → Ows G H' S' v t A
  | _, _, _, .nil, _ => .nil
  | _, _, _, .cons h r, k => .cons (Ow.up u h fun a z => k a (List.mem_append_left _ z)) (Ows.up u r fun a z => k a (List.mem_append_right _ z))
end
mutual
theorem Ow.live {G : Gx} {H : Hp} {S : AS} : ∀ {v : Option V} {t : T} {A : List Addr}, Ow G H S v t A → ∀ a ∈ A, H a ≠ none
  | _, _, _, .no, a, h => nomatch h
  | _, _, _, .fz _, a, h => nomatch h
  | _, _, _, .ol e all, a, h => by have z := List.mem_singleton.mp h; subst z; rw [e]; exact fun z => nomatch z
  | _, _, _, .lr e, a, h => by have z := List.mem_singleton.mp h; subst z; rw [e]; exact fun z => nomatch z
  | _, _, _, .od e l all, a, h => by have z := List.mem_singleton.mp h; subst z; rw [e]; exact fun z => nomatch z
  | _, _, _, .ll e all, a, h => by
    rcases List.mem_cons.mp h with z | z
    · subst z; rw [e]; exact fun z => nomatch z
    · exact Ows.live all a z
  | _, _, _, .oi e l all, a, h => by
    rcases List.mem_cons.mp h with z | z
    · subst z; rw [e]; exact fun z => nomatch z
    · exact Ows.live all a z
theorem Ows.live {G : Gx} {H : Hp} {S : AS} : ∀ {v : List V} {t : List T} {A : List Addr}, Ows G H S v t A → ∀ a ∈ A, H a ≠ none
  | _, _, _, .nil, a, h => nomatch h
  | _, _, _, .cons h r, a, z => (List.mem_append.mp z).elim (Ow.live h a) (Ows.live r a)
end
mutual
def T.fr : T → Option D
  | .no => none
  | .fz d => some d
  | .ol ds => some (.lst ds)
  | .od ks ds => some (.dic ks ds)
  | .ll ts => (T.frs ts).map .lst
  | .oi c ns ts => (T.frs ts).map (.ins c ns)
  | .lr _ => none
def T.frs : List T → Option (List D)
  | [] => some []
  | t :: r => match t.fr, T.frs r with
    | some d, some ds => some (d :: ds)
    | _, _ => none
end
mutual
theorem Ow.fr {G : Gx} {H : Hp} {S S' : AS} (u : Up H S H S') : ∀ {v : V} {t : T} {A : List Addr} {d : D}, Ow G H S (some v) t A → (∀ a ∈ A, ¬ S' a) → t.fr = some d → Oc G H S' v d
  | _, _, _, _, .no, _, e => by cases e
  | _, _, _, _, .fz h, _, e => by cases e; exact h.up u
  | _, _, _, _, .lr _, _, e => by cases e
  | _, _, _, _, .ol e all, k, z => by cases z; exact .lst e (k _ List.mem_cons_self) (all.up u)
  | _, _, _, _, .od e l all, k, z => by cases z; exact .dic e l (k _ List.mem_cons_self) (all.up u)
  | _, _, _, _, .ll (ts := ts) e all, k, z => by
    unfold T.fr at z
    cases q : T.frs ts with
    | none => rw [q] at z; cases z
    | some ds =>
      rw [q] at z; cases z
      exact .lst e (k _ List.mem_cons_self) (Ows.fr u all (fun a h => k a (List.mem_cons_of_mem _ h)) q)
  | _, _, _, _, .oi (ts := ts) e l all, k, z => by
    unfold T.fr at z
    cases q : T.frs ts with
    | none => rw [q] at z; cases z
    | some ds =>
      rw [q] at z; cases z
      exact .ins e l (k _ List.mem_cons_self) (Ows.fr u all (fun a h => k a (List.mem_cons_of_mem _ h)) q)
theorem Ows.fr {G : Gx} {H : Hp} {S S' : AS} (u : Up H S H S') : ∀ {v : List V} {t : List T} {A : List Addr} {d : List D}, Ows G H S v t A → (∀ a ∈ A, ¬ S' a) → T.frs t = some d → Ocs G H S' v d
  | _, _, _, _, .nil, _, e => by cases e; exact .nil
  | _, _, _, _, .cons (t := t) (ts := ts) h r, k, z => by
    unfold T.frs at z
    cases q : t.fr with
    | none => rw [q] at z; cases z
    | some d =>
      cases q' : T.frs ts with
      | none => rw [q, q'] at z; cases z
      | some ds =>
        rw [q, q'] at z; cases z
        exact .cons (Ow.fr u h (fun a w => k a (List.mem_append_left _ w)) q) (Ows.fr u r (fun a w => k a (List.mem_append_right _ w)) q')
end
end Rx

namespace Rx
open PySem PySem.Spec PyProof.Rows L2 RZ PySem.W
open Lc (Tp AS And1 ButS Lv)
/-! ### roots -/
abbrev Rl := List (Option V × T)
abbrev RM := List (Option V × T × List Addr)
def fpM (M : RM) : List Addr := M.flatMap fun m => m.2.2
def rtM (M : RM) : Rl := M.map fun m => (m.1, m.2.1)
def Rt (G : Gx) (H : Hp) (S : AS) (L : Rl) : Prop := ∃ M : RM, L.Perm (rtM M) ∧ (fpM M).Nodup ∧ (∀ a, S a ↔ a ∈ fpM M) ∧ ∀ m ∈ M, Ow G H S m.1 m.2.1 m.2.2
section
variable {G : Gx} {H H' : Hp} {S S' : AS} {L L' : Rl} {v : Option V} {u : V} {t : T} {d : D} {ds es : List D} {vs ws : List V} {a p : Addr}
theorem Rt.perm (r : Rt G H S L) (q : L.Perm L') : Rt G H S L' := by
  obtain ⟨M, h, x⟩ := r
  exact ⟨M, q.symm.trans h, x⟩
/-- the first root by itself -/
def Op (G : Gx) (H : Hp) (S : AS) (v : Option V) (t : T) (L : Rl) (A : List Addr) (M : RM) : Prop :=
  L.Perm (rtM M) ∧ (A ++ fpM M).Nodup ∧ (∀ a, S a ↔ a ∈ A ++ fpM M) ∧ Ow G H S v t A ∧ ∀ m ∈ M, Ow G H S m.1 m.2.1 m.2.2
theorem Rt.open (r : Rt G H S ((v, t) :: L)) : ∃ A M, Op G H S v t L A M := by
  obtain ⟨M, h, nd, hs, ow⟩ := r
  have hm : (v, t) ∈ rtM M := h.subset List.mem_cons_self
  obtain ⟨m, mm, e⟩ := List.mem_map.mp hm
  obtain ⟨s, r, rfl⟩ := List.append_of_mem mm
  obtain ⟨mv, mt, mA⟩ := m
  cases e
  have pf : (fpM (s ++ (mv, mt, mA) :: r)).Perm (mA ++ fpM (s ++ r)) := by
    unfold fpM
    rw [List.flatMap_append, List.flatMap_append, List.flatMap_cons]
    exact List.perm_append_comm_assoc _ _ _
  refine ⟨mA, s ++ r, ?_, pf.nodup nd, fun a => (hs a).trans pf.mem_iff, ow _ mm, fun m hm => ow m ?_⟩
  · refine (h.trans ?_).cons_inv (a := (mv, mt))
    unfold rtM
    rw [List.map_append, List.map_append, List.map_cons]
    exact List.perm_middle
  · rcases List.mem_append.mp hm with z | z
    · exact List.mem_append_left _ z
    · exact List.mem_append_right _ (List.mem_cons_of_mem _ z)
theorem Op.close {A : List Addr} {M : RM} (o : Op G H S v t L A M) : Rt G H S ((v, t) :: L) := by
  obtain ⟨h, nd, hs, ow, all⟩ := o
  refine ⟨(v, t, A) :: M, h.cons (v, t), nd, hs, fun m hm => ?_⟩
  rcases List.mem_cons.mp hm with rfl | z
  · exact ow
  · exact all m z
theorem Rt.live (r : Rt G H S L) : Lv H S := fun a h => by
  obtain ⟨M, _, _, hs, ow⟩ := r
  obtain ⟨m, hm, ha⟩ := List.mem_flatMap.mp ((hs a).mp h)
  exact (ow m hm).live a ha
theorem Rt.fz (r : Rt G H S ((some u, .fz d) :: L)) : Oc G H S u d := by
  obtain ⟨A, M, o⟩ := r.open
  obtain ⟨_, _, _, ow, _⟩ := o
  cases ow with
  | fz h => exact h
theorem mem_of_perm {x : Option V × T} (h : x ∈ L) : ∃ L', L.Perm (x :: L') := by
  obtain ⟨s, r, rfl⟩ := List.append_of_mem h
  exact ⟨s ++ r, List.perm_middle⟩
theorem Rt.fzm (r : Rt G H S L) (h : (some u, T.fz d) ∈ L) : Oc G H S u d := by
  obtain ⟨L', p⟩ := mem_of_perm h
  exact (r.perm p).fz
/-- a further datum -/
theorem Rt.add (r : Rt G H S L) (o : Oc G H S u d) : Rt G H S ((some u, .fz d) :: L) := by
  obtain ⟨M, h, nd, hs, ow⟩ := r
  exact Op.close (A := []) (M := M) ⟨h, nd, hs, .fz o, ow⟩
theorem Rt.addNo (r : Rt G H S L) (v : Option V) : Rt G H S ((v, .no) :: L) := by
  obtain ⟨M, h, nd, hs, ow⟩ := r
  exact Op.close (A := []) (M := M) ⟨h, nd, hs, .no, ow⟩
/-- a root goes -/
theorem Rt.drop {x : Option V × T} (r : Rt G H S (x :: L)) : ∃ S', Up H S H S' ∧ Rt G H S' L := by
  obtain ⟨A, M, h, nd, hs, _, all⟩ := Rt.open (v := x.1) (t := x.2) r
  have u : Up H S H (fun a => a ∈ fpM M) := Up.sub fun a z => (hs a).mpr (List.mem_append_right _ z)
  exact ⟨_, u, M, h, (List.nodup_append.mp nd).2.1, fun a => Iff.rfl, fun m hm => (all m hm).up u fun _ _ => rfl⟩
/-- an object of one's own becomes a datum -/
theorem Rt.frz (r : Rt G H S ((some u, t) :: L)) (e : t.fr = some d) : ∃ S', Up H S H S' ∧ Rt G H S' ((some u, .fz d) :: L) := by
  obtain ⟨A, M, h, nd, hs, ow, all⟩ := r.open
  have k : Up H S H (fun a => a ∈ fpM M) := Up.sub fun a z => (hs a).mpr (List.mem_append_right _ z)
  refine ⟨_, k, Op.close (A := []) (M := M) ⟨h, (List.nodup_append.mp nd).2.1, fun a => Iff.rfl, .fz (ow.fr k (fun a ha hm => ?_) e), fun m hm => (all m hm).up k fun _ _ => rfl⟩⟩
  exact (List.nodup_append.mp nd).2.2 a ha a hm rfl
/-- another heap, in which one's own objects stay -/
theorem Rt.up (r : Rt G H S L) (k : Up H S H' S) (e : ∀ a, S a → H' a = H a) : Rt G H' S L := by
  obtain ⟨M, h, nd, hs, ow⟩ := r
  exact ⟨M, h, nd, hs, fun m hm => (ow m hm).up k fun a ha => e a ((hs a).mpr (List.mem_flatMap.mpr ⟨m, hm, ha⟩))⟩
theorem Rt.same (r : Rt G H S L) (k : Same H H') : Rt G H' S L := r.up (Up.same k) fun a ha => by
  cases e : H a with
  | none => exact absurd e (r.live a ha)
  | some o => exact k a o e
/-- a new object of one's own -/
theorem Rt.new (r : Rt G H S L) (k : Same H H') (n : H p = none) (o : Ow G H' (And1 S p) v t [p]) : Rt G H' (And1 S p) ((v, t) :: L) := by
  have l := r.live
  have e : ∀ a, S a → H' a = H a := fun a ha => by
    cases e : H a with
    | none => exact absurd e (l a ha)
    | some o => exact k a o e
  obtain ⟨M, h, nd, hs, ow⟩ := r
  have u := Up.add (S := S) k n
  refine Op.close (A := [p]) (M := M) ⟨h, ?_, fun a => ?_, o, fun m hm => (ow m hm).up u fun a ha => e a ((hs a).mpr (List.mem_flatMap.mpr ⟨m, hm, ha⟩))⟩
  · refine List.nodup_cons.mpr ⟨fun z => ?_, nd⟩
    exact l p ((hs p).mpr z) n
  · show S a ∨ a = p ↔ a ∈ p :: fpM M
    rw [List.mem_cons, hs a]
    exact Or.comm
theorem Rt.newL (r : Rt G H S L) (k : Same H H') (n : H p = none) (e : H' p = some (.lst vs)) (oc : Ocs G H S vs ds) : Rt G H' (And1 S p) ((some (.ref p), .ol ds) :: L) :=
  r.new k n (.ol e (oc.up (Up.add k n)))
/-- the object of the first root changes -/
theorem Op.put {A : List Addr} {M : RM} {o : HO} {t' : T} (x : Op G H S v t L A M) (ha : a ∈ A) (ow : Up H S (upd H a o) S → Ow G (upd H a o) S v t' A) : Rt G (upd H a o) S ((v, t') :: L) := by
  obtain ⟨h, nd, hs, _, all⟩ := x
  have k : Up H S (upd H a o) S := Up.put ((hs a).mpr (List.mem_append_left _ ha))
  refine Op.close (A := A) (M := M) ⟨h, nd, hs, ow k, fun m hm => (all m hm).up k fun b hb => upd_ne fun z => ?_⟩
  exact (List.nodup_append.mp nd).2.2 a ha b (List.mem_flatMap.mpr ⟨m, hm, hb⟩) z.symm
theorem Rt.ol_inv (r : Rt G H S ((v, .ol ds) :: L)) : ∃ a vs, v = some (.ref a) ∧ S a ∧ H a = some (.lst vs) ∧ Ocs G H S vs ds := by
  obtain ⟨A, M, h, nd, hs, ow, all⟩ := r.open
  cases ow with
  | ol e oc => exact ⟨_, _, rfl, (hs _).mpr (by simp), e, oc⟩
theorem Rt.putL (r : Rt G H S ((some (.ref a), .ol ds) :: L)) (oc : Ocs G H S ws es) : Rt G (upd H a (.lst ws)) S ((some (.ref a), .ol es) :: L) := by
  obtain ⟨A, M, x⟩ := r.open
  obtain ⟨h, nd, hs, ow, all⟩ := id x
  cases ow with
  | ol e _ => exact x.put List.mem_cons_self fun k => .ol upd_same (oc.up k)
end
/-! ### slots -/
abbrev Env := List T
theorem zip_get {α β : Type} : ∀ {σ : List α} {ρ : List β} {i : Nat} {v : α} {t : β}, σ[i]? = some v → ρ[i]? = some t → (σ.zip ρ).Perm ((v, t) :: (σ.zip ρ).eraseIdx i)
  | [], _, _, _, _, h, _ => by simp at h
  | _ :: _, [], _, _, _, _, h => by simp at h
  | x :: σ, y :: ρ, 0, v, t, h1, h2 => by simp at h1 h2; subst h1; subst h2; exact List.Perm.refl _
  | x :: σ, y :: ρ, i + 1, v, t, h1, h2 => by
    have ih := zip_get (σ := σ) (ρ := ρ) (i := i) (by simpa using h1) (by simpa using h2)
    exact (ih.cons (x, y)).trans (List.Perm.swap _ _ _)
theorem zip_set {α β : Type} : ∀ {σ : List α} {ρ : List β} {i : Nat} (v : α) (t : β), i < σ.length → i < ρ.length → ((σ.set i v).zip (ρ.set i t)).Perm ((v, t) :: (σ.zip ρ).eraseIdx i)
  | [], _, _, _, _, h, _ => by simp at h
  | _ :: _, [], _, _, _, _, h => by simp at h
  | x :: σ, y :: ρ, 0, v, t, h1, h2 => List.Perm.refl _
  | x :: σ, y :: ρ, i + 1, v, t, h1, h2 => by
    have ih := zip_set (σ := σ) (ρ := ρ) (i := i) v t (by simpa using h1) (by simpa using h2)
    exact (ih.cons (x, y)).trans (List.Perm.swap _ _ _)
structure En (G : Gx) (H : Hp) (S : AS) (σ : L2.St) (ρ : Env) (F : Rl) : Prop where
  len : σ.length = ρ.length
  rt : Rt G H S (σ.zip ρ ++ F)
section
variable {G : Gx} {H H' : Hp} {S S' : AS} {σ : L2.St} {ρ : Env} {F F' : Rl} {v : Option V} {u : V} {t t' : T} {d : D} {i : Nat}
/-- slot i by itself -/
theorem En.at (e : En G H S σ ρ F) (h : ρ[i]? = some t) : ∃ v, σ[i]? = some v ∧ (σ.zip ρ ++ F).Perm ((v, t) :: ((σ.zip ρ).eraseIdx i ++ F)) := by
  have hi : i < ρ.length := (List.getElem?_eq_some_iff.mp h).1
  have hσ : i < σ.length := by rw [e.len]; exact hi
  exact ⟨σ[i], List.getElem?_eq_getElem hσ, (zip_get (List.getElem?_eq_getElem hσ) h).append_right F⟩
theorem En.back (e : En G H S σ ρ F) (hi : i < ρ.length) (w : Option V) (x : T) (r : Rt G H' S' ((w, x) :: ((σ.zip ρ).eraseIdx i ++ F'))) : En G H' S' (σ.set i w) (ρ.set i x) F' := by
  have hσ : i < σ.length := by rw [e.len]; exact hi
  exact ⟨by rw [List.length_set, List.length_set]; exact e.len, r.perm ((zip_set w x hσ hi).append_right F').symm⟩
/-- the slot's value stays -/
theorem En.backS (e : En G H S σ ρ F) (hi : i < ρ.length) {w : Option V} (hw : σ[i]? = some w) (x : T) (r : Rt G H' S' ((w, x) :: ((σ.zip ρ).eraseIdx i ++ F'))) : En G H' S' σ (ρ.set i x) F' := by
  have z := e.back hi w x r
  have q : σ.set i w = σ := by
    obtain ⟨h, e⟩ := List.getElem?_eq_some_iff.mp hw
    rw [← e]; exact List.set_getElem_self h
  rwa [q] at z
theorem En.frame (e : En G H S σ ρ F) (p : F.Perm F') : En G H S σ ρ F' := ⟨e.len, e.rt.perm (p.append_left _)⟩
theorem En.head (e : En G H S σ ρ ((v, t) :: F)) : Rt G H S ((v, t) :: (σ.zip ρ ++ F)) := e.rt.perm List.perm_middle
theorem En.ofHead (l : σ.length = ρ.length) (r : Rt G H S ((v, t) :: (σ.zip ρ ++ F))) : En G H S σ ρ ((v, t) :: F) := ⟨l, r.perm List.perm_middle.symm⟩
theorem En.fz (e : En G H S σ ρ ((some u, .fz d) :: F)) : Oc G H S u d := e.head.fz
theorem En.drop (e : En G H S σ ρ ((v, t) :: F)) : ∃ S', Up H S H S' ∧ En G H S' σ ρ F := by
  obtain ⟨S', k, r⟩ := e.head.drop
  exact ⟨S', k, e.len, r⟩
theorem En.frz (e : En G H S σ ρ ((some u, t) :: F)) (h : t.fr = some d) : ∃ S', Up H S H S' ∧ En G H S' σ ρ ((some u, .fz d) :: F) := by
  obtain ⟨S', k, r⟩ := e.head.frz h
  exact ⟨S', k, En.ofHead e.len r⟩
theorem En.same (e : En G H S σ ρ F) (k : Same H H') : En G H' S σ ρ F := ⟨e.len, e.rt.same k⟩
theorem En.add (e : En G H S σ ρ F) (o : Oc G H S u d) : En G H S σ ρ ((some u, .fz d) :: F) := En.ofHead e.len (e.rt.add o)
/-- a slot's datum -/
theorem En.var (e : En G H S σ ρ F) (h : ρ[i]? = some (.fz d)) : ∃ u, σ[i]? = some (some u) ∧ Oc G H S u d := by
  obtain ⟨v, hv, p⟩ := e.at h
  have r := e.rt.perm p
  obtain ⟨A, M, _, _, _, ow, _⟩ := r.open
  cases ow with
  | fz o => exact ⟨_, hv, o⟩
theorem mid {α : Type} {a b : α} {l r : List α} : (a :: (l ++ b :: r)).Perm (b :: a :: (l ++ r)) := (List.perm_middle.cons a).trans (List.Perm.swap _ _ _)
/-- the first temporary goes into slot i -/
theorem En.set (e : En G H S σ ρ ((v, t) :: F)) (hi : i < ρ.length) : ∃ S', Up H S H S' ∧ En G H S' (σ.set i v) (ρ.set i t) F := by
  obtain ⟨w, hw, p⟩ := e.at (List.getElem?_eq_getElem hi)
  obtain ⟨S', k, r⟩ := (e.rt.perm p).drop
  exact ⟨S', k, e.back hi v t (r.perm List.perm_middle)⟩
/-- slot i's tree becomes a temporary -/
theorem En.take (e : En G H S σ ρ F) (h : ρ[i]? = some t) : ∃ v, σ[i]? = some v ∧ En G H S σ (ρ.set i .no) ((v, t) :: F) := by
  obtain ⟨v, hv, p⟩ := e.at h
  have hi : i < ρ.length := (List.getElem?_eq_some_iff.mp h).1
  have r := ((e.rt.perm p).addNo v).perm (List.Perm.trans (List.Perm.refl _) (List.perm_middle.symm.cons _))
  exact ⟨v, hv, e.backS hi hv .no r⟩
/-- .. and comes back -/
theorem En.give (e : En G H S σ ρ ((v, t) :: F)) (hi : i < ρ.length) (hv : σ[i]? = some v) : ∃ S', Up H S H S' ∧ En G H S' σ (ρ.set i t) F := by
  obtain ⟨S', k, e'⟩ := e.set hi
  have q : σ.set i v = σ := by
    obtain ⟨h, e⟩ := List.getElem?_eq_some_iff.mp hv
    rw [← e]; exact List.set_getElem_self h
  rw [q] at e'
  exact ⟨S', k, e'⟩
/-- slot i is read: it is a datum from now on -/
theorem En.read (e : En G H S σ ρ F) (h : ρ[i]? = some t) (z : t.fr = some d) : ∃ u S', σ[i]? = some (some u) ∧ Up H S H S' ∧ En G H S' σ (ρ.set i (.fz d)) ((some u, .fz d) :: F) := by
  obtain ⟨v, hv, p⟩ := e.at h
  have hi : i < ρ.length := (List.getElem?_eq_some_iff.mp h).1
  have r := e.rt.perm p
  have hu : ∃ u, v = some u := by
    obtain ⟨A, M, _, _, _, ow, _⟩ := r.open
    cases ow with
    | no => cases z
    | fz _ => exact ⟨_, rfl⟩
    | ol _ _ => exact ⟨_, rfl⟩
    | od _ _ _ => exact ⟨_, rfl⟩
    | ll _ _ => exact ⟨_, rfl⟩
    | oi _ _ _ => exact ⟨_, rfl⟩
    | lr _ => cases z
  obtain ⟨u, rfl⟩ := hu
  obtain ⟨S', k, r'⟩ := r.frz z
  exact ⟨u, S', hv, k, e.backS hi hv _ ((r'.add r'.fz).perm (List.perm_middle.symm.cons _))⟩
theorem En.clr (e : En G H S σ ρ F) (hi : i < ρ.length) (w : Option V) : ∃ S', Up H S H S' ∧ En G H S' (σ.set i w) (ρ.set i .no) F := by
  obtain ⟨v, hv, p⟩ := e.at (List.getElem?_eq_getElem hi)
  obtain ⟨S', k, r⟩ := (e.rt.perm p).drop
  exact ⟨S', k, e.back hi w .no (r.addNo w)⟩
end
end Rx

namespace Rx
open PySem PySem.Spec PyProof.Rows L2 RZ PySem.W
open Lc (Tp AS And1 ButS Lv)
/-! ### what a piece of the program does to slots -/
/-- an exception: its class, its field -/
structure Xc where
  c : Nat
  f : Option (Str × D)
inductive O (α : Type) where | ok (a : α) (ρ : Env) | ex (x : Xc) (ρ : Env)
abbrev M (α : Type) := Env → Option (O α)
def M.bind {α β : Type} (m : M α) (f : α → M β) : M β := fun ρ => match m ρ with
  | some (.ok a ρ') => f a ρ'
  | some (.ex x ρ') => some (.ex x ρ')
  | none => none
def M.ret {α : Type} (a : α) : M α := fun ρ => some (.ok a ρ)
def M.opt {α : Type} (o : Option α) : M α := fun ρ => match o with
  | some a => some (.ok a ρ)
  | none => none
def XcAt (G : Gx) (H : Hp) (S : AS) (cls : Value) (dd : Option Addr) (x : Xc) : Prop := cls = .ref (G.cl x.c) ∧ match x.f with
  | none => dd = none
  | some (n, d) => ∃ a v, dd = some a ∧ H a = some (.xd [(n, v)]) ∧ ¬ S a ∧ Oc G H S v d
theorem XcAt.up {G : Gx} {H H' : Hp} {S S' : AS} {cls : Value} {dd : Option Addr} {x : Xc} (u : Up H S H' S') (h : XcAt G H S cls dd x) : XcAt G H' S' cls dd x := by
  obtain ⟨c, f⟩ := x
  obtain ⟨h1, h2⟩ := h
  refine ⟨h1, ?_⟩
  cases f with
  | none => exact h2
  | some q =>
    obtain ⟨n, d⟩ := q
    obtain ⟨a, v, e1, e2, e3, e4⟩ := h2
    exact ⟨a, v, e1, u.but _ _ e3 e2, u.off _ (by rw [e2]; exact fun z => nomatch z) e3, e4.up u⟩
/-- what is wanted where an exception leaves -/
def ExF (G : Gx) (W : WX) (σ : L2.St) (F : Rl) (x : Xc) (ρ : Env) : Prop := ∀ cls d H S, XcAt G H S cls d x → En G H S σ ρ F → W cls d σ H
theorem ExF.mono {G : Gx} {W : WX} {σ : L2.St} {F : Rl} {x : Xc} {ρ : Env} {r : Option V × T} (h : ExF G W σ F x ρ) : ExF G W σ (r :: F) x ρ := fun cls d H S a e => by
  obtain ⟨S', u, e'⟩ := En.drop (v := r.1) (t := r.2) e
  exact h cls d H S' (a.up u) e'
theorem ExF.monos {G : Gx} {W : WX} {σ : L2.St} {F : Rl} {x : Xc} {ρ : Env} (h : ExF G W σ F x ρ) : ∀ L : Rl, ExF G W σ (L ++ F) x ρ
  | [] => h
  | r :: L => (ExF.monos h L).mono
def OutE (G : Gx) (W : WX) (σ : L2.St) (F : Rl) (Q : VK) : O T → Prop
  | .ok t ρ => ∀ v H S, En G H S σ ρ ((some v, t) :: F) → Q v H
  | .ex x ρ => ExF G W σ F x ρ
def OutB (G : Gx) (W : WX) (σ : L2.St) (F : Rl) (Q : Bool → Hp → Prop) : O Bool → Prop
  | .ok b ρ => ∀ H S, En G H S σ ρ F → Q b H
  | .ex x ρ => ExF G W σ F x ρ
def rts (vs : List V) (ts : List T) : Rl := (vs.map some).zip ts
def OutA (G : Gx) (W : WX) (σ : L2.St) (F : Rl) (Q : List V → Hp → Prop) : O (List T) → Prop
  | .ok ts ρ => ∀ vs H S, vs.length = ts.length → En G H S σ ρ (rts vs ts ++ F) → Q vs H
  | .ex x ρ => ExF G W σ F x ρ
def TEo (G : Gx) (W : WX) (m : M T) : TE := fun σ H Q => ∃ S ρ F o, En G H S σ ρ F ∧ m ρ = some o ∧ OutE G W σ F Q o
def TTo (G : Gx) (W : WX) (m : M Bool) : TT := fun σ H Q => ∃ S ρ F o, En G H S σ ρ F ∧ m ρ = some o ∧ OutB G W σ F Q o
def TAo (G : Gx) (W : WX) (m : M (List T)) : TA := fun σ H Q => ∃ S ρ F o, En G H S σ ρ F ∧ m ρ = some o ∧ OutA G W σ F Q o
/-- the piece e of the program does m -/
def PM (G : Gx) (W : WX) (X : Cx) (e : Expr) (m : M T) : Prop := PE X e (TEo G W m)
def PMt (G : Gx) (W : WX) (X : Cx) (e : Expr) (m : M Bool) : Prop := PT X e (TTo G W m)
def PMa (G : Gx) (W : WX) (X : Cx) (es : List Expr) (m : M (List T)) : Prop := PA X es (TAo G W m)
theorem pe_mono {X : Cx} {e : Expr} {t t' : TE} (h : PE X e t) (k : ∀ σ H Q, t' σ H Q → t σ H Q) : PE X e t' := ⟨fun pins s σ H Q I q => h.run pins s σ H Q I (k σ H Q q)⟩
theorem pt_mono {X : Cx} {e : Expr} {t t' : TT} (h : PT X e t) (k : ∀ σ H Q, t' σ H Q → t σ H Q) : PT X e t' := ⟨fun pins s σ H Q I q => h.run pins s σ H Q I (k σ H Q q)⟩
theorem pa_mono {X : Cx} {e : List Expr} {t t' : TA} (h : PA X e t) (k : ∀ σ H Q, t' σ H Q → t σ H Q) : PA X e t' := ⟨fun pos pins s σ H Q I q => h.run pos pins s σ H Q I (k σ H Q q)⟩
theorem ps_mono {X : Cx} {e : Stmt} {t t' : TS} (h : PS X e t) (k : ∀ D σ H, t' D σ H → t D σ H) : PS X e t' := ⟨fun pins s σ H D I q => h.run pins s σ H D I (k D σ H q)⟩
section
variable {G : Gx} {W : WX} {X : Cx} {σ : L2.St} {H : Hp} {S : AS} {ρ : Env} {F : Rl} {β : Type} {o : O β}
/-- one piece, then the rest -/
theorem TEo.go {m : M T} {f : T → M β} {K : VK} (e : En G H S σ ρ F) (hm : m.bind f ρ = some o) (hx : ∀ x ρ', o = .ex x ρ' → ExF G W σ F x ρ')
    (k : ∀ t ρ1 v H1 S1, f t ρ1 = some o → En G H1 S1 σ ρ1 ((some v, t) :: F) → K v H1) : TEo G W m σ H K := by
  unfold M.bind at hm
  cases q : m ρ with
  | none => rw [q] at hm; cases hm
  | some r =>
    rw [q] at hm
    refine ⟨S, ρ, F, r, e, q, ?_⟩
    cases r with
    | ok t ρ1 => exact fun v H1 S1 e1 => k t ρ1 v H1 S1 hm e1
    | ex x ρ1 => exact hx x ρ1 (Option.some.inj hm).symm
theorem TTo.go {m : M Bool} {f : Bool → M β} {K : Bool → Hp → Prop} (e : En G H S σ ρ F) (hm : m.bind f ρ = some o) (hx : ∀ x ρ', o = .ex x ρ' → ExF G W σ F x ρ')
    (k : ∀ b ρ1 H1 S1, f b ρ1 = some o → En G H1 S1 σ ρ1 F → K b H1) : TTo G W m σ H K := by
  unfold M.bind at hm
  cases q : m ρ with
  | none => rw [q] at hm; cases hm
  | some r =>
    rw [q] at hm
    refine ⟨S, ρ, F, r, e, q, ?_⟩
    cases r with
    | ok t ρ1 => exact fun H1 S1 e1 => k t ρ1 H1 S1 hm e1
    | ex x ρ1 => exact hx x ρ1 (Option.some.inj hm).symm
theorem TAo.go {m : M (List T)} {f : List T → M β} {K : List V → Hp → Prop} (e : En G H S σ ρ F) (hm : m.bind f ρ = some o) (hx : ∀ x ρ', o = .ex x ρ' → ExF G W σ F x ρ')
    (k : ∀ ts ρ1 vs H1 S1, vs.length = ts.length → f ts ρ1 = some o → En G H1 S1 σ ρ1 (rts vs ts ++ F) → K vs H1) : TAo G W m σ H K := by
  unfold M.bind at hm
  cases q : m ρ with
  | none => rw [q] at hm; cases hm
  | some r =>
    rw [q] at hm
    refine ⟨S, ρ, F, r, e, q, ?_⟩
    cases r with
    | ok t ρ1 => exact fun vs H1 S1 hl e1 => k t ρ1 vs H1 S1 hl hm e1
    | ex x ρ1 => exact hx x ρ1 (Option.some.inj hm).symm
theorem OutE.hx {Q : VK} {o : O T} (h : OutE G W σ F Q o) : ∀ x ρ', o = .ex x ρ' → ExF G W σ F x ρ' := fun x ρ' e => by subst e; exact h
theorem OutB.hx {Q : Bool → Hp → Prop} {o : O Bool} (h : OutB G W σ F Q o) : ∀ x ρ', o = .ex x ρ' → ExF G W σ F x ρ' := fun x ρ' e => by subst e; exact h
theorem OutA.hx {Q : List V → Hp → Prop} {o : O (List T)} (h : OutA G W σ F Q o) : ∀ x ρ', o = .ex x ρ' → ExF G W σ F x ρ' := fun x ρ' e => by subst e; exact h
/-! ### a datum wanted -/
/-- the value, as a datum -/
def mD (m : M T) : M D := m.bind fun t => M.opt t.fr
theorem bind_opt {α γ : Type} {x : Option α} {f : α → M γ} {ρ : Env} {o : O γ} (h : (M.opt x).bind f ρ = some o) : ∃ a, x = some a ∧ f a ρ = some o := by
  unfold M.bind M.opt at h
  cases x with
  | none => cases h
  | some a => exact ⟨a, rfl, h⟩
theorem bind_assoc {α γ δ : Type} (m : M α) (f : α → M γ) (g : γ → M δ) : (m.bind f).bind g = m.bind fun a => (f a).bind g := by
  funext ρ
  unfold M.bind
  cases m ρ with
  | none => rfl
  | some r => cases r <;> rfl
theorem TEo.goD {m : M T} {f : D → M β} {K : VK} (e : En G H S σ ρ F) (hm : (mD m).bind f ρ = some o) (hx : ∀ x ρ', o = .ex x ρ' → ExF G W σ F x ρ')
    (k : ∀ d ρ1 v H1 S1, f d ρ1 = some o → En G H1 S1 σ ρ1 ((some v, .fz d) :: F) → K v H1) : TEo G W m σ H K := by
  unfold mD at hm
  rw [bind_assoc] at hm
  refine TEo.go e hm hx fun t ρ1 v H1 S1 hf e1 => ?_
  obtain ⟨d, hd, hf⟩ := bind_opt hf
  obtain ⟨S2, _, e2⟩ := e1.frz hd
  exact k d ρ1 v H1 S2 hf e2
/-! ### names, constants -/
def mC (d : D) : M T := M.ret (.fz d)
/-- a slot is read -/
def mVar (i : Nat) : M T := fun ρ => match ρ[i]? with
  | some (.fz d) => some (.ok (.fz d) ρ)
  | some t => match t.fr with
    | some d => some (.ok (.fz d) (ρ.set i (.fz d)))
    | none => none
  | none => none
/-- a slot's tree goes away -/
def mMv (i : Nat) : M T := fun ρ => match ρ[i]? with
  | some .no => none
  | some (.fz d) => some (.ok (.fz d) ρ)
  | some t => some (.ok t (ρ.set i .no))
  | none => none
theorem slot_set {α : Type} {l : List α} {i : Nat} {x : α} (h : l[i]? = some x) : l.set i x = l := by
  obtain ⟨h, e⟩ := List.getElem?_eq_some_iff.mp h
  rw [← e]; exact List.set_getElem_self h
theorem mVar_inv {i : Nat} {o : O T} (h : mVar i ρ = some o) : ∃ t d, ρ[i]? = some t ∧ t.fr = some d ∧ o = .ok (.fz d) (ρ.set i (.fz d)) := by
  unfold mVar at h
  split at h
  · next d e => cases h; exact ⟨_, d, e, rfl, by rw [slot_set e]⟩
  · next t _ e =>
    split at h
    · next d e2 => cases h; exact ⟨t, d, e, e2, rfl⟩
    · cases h
  · cases h
theorem En.someOf {i : Nat} {t : T} {v : Option V} (e : En G H S σ ρ ((v, t) :: F)) (h : t ≠ .no) : ∃ u, v = some u := by
  obtain ⟨A, M, _, _, _, ow, _⟩ := e.head.open
  cases ow with
  | no => exact absurd rfl h
  | fz _ => exact ⟨_, rfl⟩
  | ol _ _ => exact ⟨_, rfl⟩
  | od _ _ _ => exact ⟨_, rfl⟩
  | ll _ _ => exact ⟨_, rfl⟩
  | oi _ _ _ => exact ⟨_, rfl⟩
  | lr _ => exact ⟨_, rfl⟩
theorem mMv_inv {i : Nat} {o : O T} (h : mMv i ρ = some o) : ∃ t, ρ[i]? = some t ∧ t ≠ .no ∧ ((∃ d, t = .fz d ∧ o = .ok t ρ) ∨ o = .ok t (ρ.set i .no)) := by
  unfold mMv at h
  split at h
  · cases h
  · next d e => cases h; exact ⟨_, e, by simp, .inl ⟨d, rfl, rfl⟩⟩
  · next t n _ e => cases h; exact ⟨t, e, n, .inr rfl⟩
  · cases h
theorem pm_var (i : Nat) {x : Str} {pos : Pos} (hN : X.N[i]? = some x := by rfl) (hv : Vis X.env.scope x := by first | exact Or.inl rfl | exact Or.inr (Or.inl rfl) | exact Or.inr (Or.inr rfl)) (hd : (x == ("__debug__" : Str)) = false := by decide)
    (hcd : (x == ("__classdict__" : Str)) = false := by decide) : PM G W X (.Name x pos) (mVar i) := pe_mono (pe_var hN hv hd hcd) fun σ H Q ⟨S, ρ, F, o, e, h, q⟩ => by
  obtain ⟨t, d, h1, h2, rfl⟩ := mVar_inv h
  obtain ⟨u, S', hu, _, e'⟩ := e.read h1 h2
  exact ⟨u, hu, q u H S' e'⟩
theorem pm_mv (i : Nat) {x : Str} {pos : Pos} (hN : X.N[i]? = some x := by rfl) (hv : Vis X.env.scope x := by first | exact Or.inl rfl | exact Or.inr (Or.inl rfl) | exact Or.inr (Or.inr rfl)) (hd : (x == ("__debug__" : Str)) = false := by decide)
    (hcd : (x == ("__classdict__" : Str)) = false := by decide) : PM G W X (.Name x pos) (mMv i) := pe_mono (pe_var hN hv hd hcd) fun σ H Q ⟨S, ρ, F, o, e, h, q⟩ => by
  obtain ⟨t, h1, n, ⟨d, rfl, rfl⟩ | rfl⟩ := mMv_inv h
  · obtain ⟨u, hu, oc⟩ := e.var h1
    exact ⟨u, hu, q u H S (e.add oc)⟩
  · obtain ⟨v, hv, e'⟩ := e.take h1
    obtain ⟨u, rfl⟩ := e'.someOf (i := i) n
    exact ⟨u, hv, q u H S e'⟩
theorem pm_c {e : Expr} {v : V} {d : D} (h : PE X e (tC v)) (o : ∀ H S, Oc G H S v d) : PM G W X e (mC d) := pe_mono h fun σ H Q ⟨S, ρ, F, ot, e, h, q⟩ => by
  cases h
  exact q v H S (e.add (o H S))
theorem pm_int {i : Int} {j pos} : PM G W X (.Constant (.int i) j pos) (mC (.int i)) := pm_c pe_int fun _ _ => .int i
theorem pm_bl {b : Bool} {j pos} : PM G W X (.Constant (.bool b) j pos) (mC (.bl b)) := pm_c pe_bl fun _ _ => .bl b
theorem pm_non {j pos} : PM G W X (.Constant .none j pos) (mC .non) := pm_c pe_non fun _ _ => .non
theorem pm_str {x : Str} {j pos} : PM G W X (.Constant (.str x) j pos) (mC (.str x)) := pm_c pe_str fun _ _ => .str x
/-! ### a thing that is only looked at -/
inductive Vw (G : Gx) (H : Hp) (S : AS) : V → D → Prop where
  | oc {v : V} {d : D} (h : Oc G H S v d) : Vw G H S v d
  | lst {a : Addr} {vs : List V} {ds : List D} (e : H a = some (.lst vs)) (all : Ocs G H S vs ds) : Vw G H S (.ref a) (.lst ds)
  | dic {a : Addr} {ks : List Key} {vs : List V} {ds : List D} (e : H a = some (.dK (ks.zip vs))) (l : ks.length = vs.length) (all : Ocs G H S vs ds) : Vw G H S (.ref a) (.dic ks ds)
  | ins {a dx : Addr} {c : Nat} {ns : List Str} {vs : List V} {ds : List D} (e : H a = some (.ins (G.cl c) dx (ns.zip vs))) (l : ns.length = vs.length) (all : Ocs G H S vs ds) : Vw G H S (.ref a) (.ins c ns ds)
theorem Vw.int_inv {v : V} {i : Int} (h : Vw G H S v (.int i)) : v = .int i := by cases h with | oc h => exact h.int_inv
theorem Vw.bl_inv {v : V} {i : Bool} (h : Vw G H S v (.bl i)) : v = .bl i := by cases h with | oc h => exact h.bl_inv
theorem Vw.str_inv {v : V} {i : Str} (h : Vw G H S v (.str i)) : v = .str i := by cases h with | oc h => exact h.str_inv
theorem Vw.tup {v : V} {ds : List D} (h : Vw G H S v (.tup ds)) : Oc G H S v (.tup ds) := by cases h with | oc h => exact h
theorem Vw.lst_inv {v : V} {ds : List D} (h : Vw G H S v (.lst ds)) : ∃ a vs, v = .ref a ∧ H a = some (.lst vs) ∧ Ocs G H S vs ds := by
  cases h with
  | oc h => obtain ⟨a, vs, h1, h2, _, h3⟩ := h.lst_inv; exact ⟨a, vs, h1, h2, h3⟩
  | lst e all => exact ⟨_, _, rfl, e, all⟩
theorem Vw.dic_inv {v : V} {ks : List Key} {ds : List D} (h : Vw G H S v (.dic ks ds)) : ∃ a vs, v = .ref a ∧ H a = some (.dK (ks.zip vs)) ∧ ks.length = vs.length ∧ Ocs G H S vs ds := by
  cases h with
  | oc h => cases h with | dic e l _ all => exact ⟨_, _, rfl, e, l, all⟩
  | dic e l all => exact ⟨_, _, rfl, e, l, all⟩
theorem Vw.ins_inv {v : V} {c : Nat} {ns : List Str} {ds : List D} (h : Vw G H S v (.ins c ns ds)) : ∃ a dx vs, v = .ref a ∧ H a = some (.ins (G.cl c) dx (ns.zip vs)) ∧ ns.length = vs.length ∧ Ocs G H S vs ds := by
  cases h with
  | oc h => cases h with | ins e l _ all => exact ⟨_, _, _, rfl, e, l, all⟩
  | ins e l all => exact ⟨_, _, _, rfl, e, l, all⟩
def T.fzs : List T → Option (List D)
  | [] => some []
  | .fz d :: r => (T.fzs r).map (d :: ·)
  | _ :: _ => none
theorem Ows.fzs : ∀ {ts : List T} {vs : List V} {A : List Addr} {ds : List D}, Ows G H S vs ts A → T.fzs ts = some ds → Ocs G H S vs ds
  | [], _, _, _, .nil, e => by cases e; exact .nil
  | .fz d :: r, _, _, _, .cons h t, e => by
    unfold T.fzs at e
    cases z : T.fzs r with
    | none => rw [z] at e; cases e
    | some ds =>
      rw [z] at e; cases e
      cases h with
      | fz h => exact .cons h (Ows.fzs t z)
  | .no :: _, _, _, _, _, e => by cases e
  | .ol _ :: _, _, _, _, _, e => by cases e
  | .od _ _ :: _, _, _, _, _, e => by cases e
  | .ll _ :: _, _, _, _, _, e => by cases e
  | .oi _ _ _ :: _, _, _, _, _, e => by cases e
def T.vw : T → Option D
  | .fz d => some d
  | .ol ds => some (.lst ds)
  | .od ks ds => some (.dic ks ds)
  | .oi c ns ts => (T.fzs ts).map (.ins c ns)
  | _ => none
theorem En.view {i : Nat} {t : T} {d : D} (e : En G H S σ ρ F) (h : ρ[i]? = some t) (z : t.vw = some d) : ∃ u, σ[i]? = some (some u) ∧ Vw G H S u d := by
  obtain ⟨v, hv, p⟩ := e.at h
  obtain ⟨A, M, _, _, _, ow, _⟩ := (e.rt.perm p).open
  cases ow with
  | no => cases z
  | fz o => cases z; exact ⟨_, hv, .oc o⟩
  | ol e all => cases z; exact ⟨_, hv, .lst e all⟩
  | od e l all => cases z; exact ⟨_, hv, .dic e l all⟩
  | ll _ _ => cases z
  | lr _ => cases z
  | @oi a dx c ns vs ts A e l all =>
    have z : (T.fzs ts).map (D.ins c ns) = some d := z
    cases q : T.fzs ts with
    | none => rw [q] at z; cases z
    | some ds => rw [q] at z; cases z; exact ⟨_, hv, .ins e l (all.fzs q)⟩
/-- an operand: any expression, or a name that is only looked at -/
inductive Opd where | e (m : M T) | v (i : Nat)
def Opd.te (G : Gx) (W : WX) : Opd → TE
  | .e m => TEo G W m
  | .v i => tVar i
def Opd.ev : Opd → M (Option D)
  | .e m => (mD m).bind fun d => M.ret (some d)
  | .v i => fun ρ => match ρ[i]? with
    | some .no => none
    | some _ => some (.ok none ρ)
    | none => none
def Opd.get (x : Option D) (ρ : Env) : Opd → Option D
  | .e _ => x
  | .v i => match ρ[i]? with
    | some t => t.vw
    | none => none
def PMo (G : Gx) (W : WX) (X : Cx) (e : Expr) (a : Opd) : Prop := PE X e (a.te G W)
/-- what is held of an operand -/
def Opd.fr (v : V) (x : Option D) : Opd → Rl
  | .e _ => match x with
    | some d => [(some v, .fz d)]
    | none => []
  | .v _ => []
def Opd.at (σ : L2.St) (v : V) (x : Option D) : Opd → Prop
  | .e _ => ∃ d, x = some d
  | .v i => σ[i]? = some (some v)
theorem pmo_e {e : Expr} {m : M T} (h : PM G W X e m) : PMo G W X e (.e m) := h
theorem pmo_v (i : Nat) {x : Str} {pos : Pos} (hN : X.N[i]? = some x := by rfl) (hv : Vis X.env.scope x := by first | exact Or.inl rfl | exact Or.inr (Or.inl rfl) | exact Or.inr (Or.inr rfl)) (hd : (x == ("__debug__" : Str)) = false := by decide)
    (hcd : (x == ("__classdict__" : Str)) = false := by decide) : PMo G W X (.Name x pos) (.v i) := pe_var hN hv hd hcd
theorem Opd.go {a : Opd} {f : Option D → M β} {K : VK} (e : En G H S σ ρ F) (hm : (a.ev).bind f ρ = some o) (hx : ∀ x ρ', o = .ex x ρ' → ExF G W σ F x ρ')
    (k : ∀ x ρ1 v H1 S1, f x ρ1 = some o → En G H1 S1 σ ρ1 (a.fr v x ++ F) → a.at σ v x → K v H1) : a.te G W σ H K := by
  cases a with
  | e m =>
    unfold Opd.ev at hm
    rw [bind_assoc] at hm
    exact TEo.goD e hm hx fun d ρ1 v H1 S1 h e1 => k (some d) ρ1 v H1 S1 h e1 ⟨d, rfl⟩
  | v i =>
    unfold Opd.ev M.bind at hm
    dsimp only at hm
    cases q : ρ[i]? with
    | none => rw [q] at hm; cases hm
    | some t =>
      obtain ⟨v, hv, e'⟩ := e.take q
      have nt : t ≠ .no := by
        intro z
        subst z
        rw [q] at hm; cases hm
      obtain ⟨u, rfl⟩ := e'.someOf (i := i) nt
      refine ⟨u, hv, k none ρ u H S ?_ e hv⟩
      rw [q] at hm
      cases t with
      | no => exact absurd rfl nt
      | _ => exact hm
theorem Opd.see {a : Opd} {v : V} {x : Option D} {d : D} (ha : a.at σ v x) (e : En G H S σ ρ F) (hm : ∀ r ∈ a.fr v x, r ∈ F) (g : a.get x ρ = some d) : Vw G H S v d := by
  cases a with
  | e m =>
    obtain ⟨d', rfl⟩ := ha
    cases g
    exact .oc (e.rt.fzm (List.mem_append_right _ (hm (some v, .fz d) List.mem_cons_self)))
  | v i =>
    unfold Opd.get at g
    dsimp only at g
    split at g
    · next t q =>
      obtain ⟨u, hu, w⟩ := e.view q g
      have ha : σ[i]? = some (some v) := ha
      rw [ha] at hu; cases hu
      exact w
    · cases g
theorem En.drops : ∀ {L : Rl} {S : AS} {F F' : Rl}, En G H S σ ρ F → F = L ++ F' → ∃ S', Up H S H S' ∧ En G H S' σ ρ F'
  | [], S, _, F', e, h => by subst h; exact ⟨S, Up.refl _ _, e⟩
  | (v, t) :: L, S, _, F', e, h => by
    subst h
    obtain ⟨S1, u1, e1⟩ := En.drop (v := v) (t := t) e
    obtain ⟨S2, u2, e2⟩ := En.drops (L := L) (F' := F') e1 rfl
    exact ⟨S2, u1.trans u2, e2⟩
/-! ### operations on values -/
theorem Vw.up {H' : Hp} {S' : AS} {v : V} {d : D} (u : Up H S H' S') (e : H' = H) (h : Vw G H S v d) : Vw G H' S' v d := by
  subst e
  cases h with
  | oc h => exact .oc (h.up u)
  | lst e all => exact .lst e (all.up u)
  | dic e l all => exact .dic e l (all.up u)
  | ins e l all => exact .ins e l (all.up u)
/-- r gives, of the data d and e, what g says -/
def OpS (G : Gx) (r : R2) (g : D → D → Option T) : Prop := ∀ H S L x y d e t (Q : VK), Rt G H S L → Vw G H S x d → Vw G H S y e → g d e = some t → (∀ v H' S', Rt G H' S' ((some v, t) :: L) → Q v H') → r x y H Q
def mBin (g : D → D → Option T) (a b : Opd) : M T := a.ev.bind fun x => b.ev.bind fun y => fun ρ => match a.get x ρ, b.get y ρ with
  | some d, some e => M.opt (g d e) ρ
  | _, _ => none
theorem mBin_go {r : R2} {g : D → D → Option T} {a b : Opd} (hr : OpS G r g) {K : VK} (e : En G H S σ ρ F) {β : Type} {o : O β} {f : T → M β} (hm : (mBin g a b).bind f ρ = some o) (hx : ∀ x ρ', o = .ex x ρ' → ExF G W σ F x ρ')
    (k : ∀ t ρ1 v H1 S1, f t ρ1 = some o → En G H1 S1 σ ρ1 ((some v, t) :: F) → K v H1) : tOp r (a.te G W) (b.te G W) σ H K := by
  unfold mBin at hm
  rw [bind_assoc] at hm
  refine Opd.go e hm hx fun x ρ1 v H1 S1 h1 e1 a1 => ?_
  rw [bind_assoc] at h1
  refine Opd.go e1 h1 (fun x ρ' z => (hx x ρ' z).monos _) fun y ρ2 w H2 S2 h2 e2 a2 => ?_
  unfold M.bind at h2
  cases z1 : a.get x ρ2 with
  | none => dsimp only at h2; rw [z1] at h2; cases h2
  | some d1 =>
    cases z2 : b.get y ρ2 with
    | none => dsimp only at h2; rw [z1, z2] at h2; cases h2
    | some d2 =>
      dsimp only at h2
      rw [z1, z2] at h2
      unfold M.opt at h2
      dsimp only at h2
      cases z : g d1 d2 with
      | none => rw [z] at h2; cases h2
      | some t =>
        rw [z] at h2
        have w1 := Opd.see a1 e2 (fun r hr => List.mem_append_right _ (List.mem_append_left _ hr)) z1
        have w2 := Opd.see a2 e2 (fun r hr => List.mem_append_left _ hr) z2
        obtain ⟨S3, u3, e3⟩ := e2.drops (L := b.fr w y ++ a.fr v x) (F' := F) (List.append_assoc _ _ _).symm
        exact hr H2 S3 _ v w d1 d2 t K e3.rt (w1.up u3 rfl) (w2.up u3 rfl) z fun u H' S' r' => k t ρ2 u H' S' h2 (En.ofHead e3.len r')
theorem bind_ret {α : Type} (m : M α) : m.bind M.ret = m := by
  funext ρ
  unfold M.bind M.ret
  cases m ρ with
  | none => rfl
  | some o => cases o <;> rfl
theorem mBin_run {r : R2} {g : D → D → Option T} {a b : Opd} (hr : OpS G r g) {Q : VK} (q : TEo G W (mBin g a b) σ H Q) : tOp r (a.te G W) (b.te G W) σ H Q := by
  obtain ⟨S, ρ, F, o, e, h, q⟩ := q
  refine mBin_go hr (f := M.ret) e (by rw [bind_ret]; exact h) q.hx fun t ρ1 v H1 S1 h1 e1 => ?_
  cases h1
  exact q v H1 S1 e1
/-! ### one operand -/
def mUn (g : D → Option T) (a : Opd) : M T := a.ev.bind fun x => fun ρ => match a.get x ρ with
  | some d => M.opt (g d) ρ
  | _ => none
def UnS (G : Gx) (r : V → Hp → VK → Prop) (g : D → Option T) : Prop := ∀ H S L x d t (Q : VK), Rt G H S L → Vw G H S x d → g d = some t → (∀ v H' S', Rt G H' S' ((some v, t) :: L) → Q v H') → r x H Q
theorem mUn_run {r : V → Hp → VK → Prop} {g : D → Option T} {a : Opd} (hr : UnS G r g) {Q : VK} (q : TEo G W (mUn g a) σ H Q) : a.te G W σ H (fun x H1 => r x H1 Q) := by
  obtain ⟨S, ρ, F, o, e, h, q⟩ := q
  refine Opd.go e h q.hx fun x ρ1 v H1 S1 h1 e1 a1 => ?_
  cases z1 : a.get x ρ1 with
  | none => rw [z1] at h1; cases h1
  | some d1 =>
    rw [z1] at h1
    unfold M.opt at h1
    dsimp only at h1
    cases z : g d1 with
    | none => rw [z] at h1; cases h1
    | some t =>
      rw [z] at h1; cases h1
      have w1 := Opd.see a1 e1 (fun r hr => List.mem_append_left _ hr) z1
      obtain ⟨S3, u3, e3⟩ := e1.drops (L := a.fr v x) (F' := F) rfl
      exact hr H1 S3 _ v d1 t Q e3.rt (w1.up u3 rfl) z fun u H' S' r' => q u H' S' (En.ofHead e3.len r')
end
end Rx

namespace Rx
open PySem PySem.Spec PyProof.Rows L2 RZ PySem.W
open Lc (Tp AS And1 ButS Lv)
/-! ### plain data -/
def okAt : Nat → D → Bool
  | _, .non => true
  | _, .bl _ => true
  | _, .int _ => true
  | _, .str _ => true
  | n + 1, .tup xs => xs.all (okAt n)
  | n + 1, .lst xs => xs.all (okAt n)
  | _, _ => false
mutual
def pd : D → PyData
  | .non => .none
  | .bl b => .bool b
  | .int i => .int i
  | .str s => .str s
  | .lst ds => .list (pds ds)
  | .tup ds => .tuple (pds ds)
  | _ => .dict []
def pds : List D → List PyData
  | [] => []
  | d :: r => pd d :: pds r
end
theorem pds_map : ∀ ds : List D, pds ds = ds.map pd
  | [] => rfl
  | d :: r => by rw [pds, pds_map r]; rfl
def D.eqv (d e : D) : Bool := PyData.eqv (pd d) (pd e)
theorem pds_plain {n : Nat} (ih : ∀ d : D, okAt n d = true → (pd d).plain = true ∧ (pd d).depth ≤ n) : ∀ ds : List D, ds.all (okAt n) = true → PyData.plainAll (pds ds) = true ∧ PyData.depthAll (pds ds) ≤ n
  | [], _ => ⟨rfl, Nat.zero_le _⟩
  | d :: r, h => by
    rw [List.all_cons, Bool.and_eq_true] at h
    obtain ⟨a, b⟩ := ih d h.1
    obtain ⟨a', b'⟩ := pds_plain ih r h.2
    refine ⟨?_, ?_⟩
    · rw [pds, PyData.plainAll, a, a']; rfl
    · rw [pds, PyData.depthAll]; exact Nat.max_le.mpr ⟨b, b'⟩
theorem ok_plain : ∀ (n : Nat) (d : D), okAt n d = true → (pd d).plain = true ∧ (pd d).depth ≤ n
  | n, .non, _ => ⟨rfl, Nat.zero_le _⟩
  | n, .bl b, _ => ⟨rfl, Nat.zero_le _⟩
  | n, .int i, _ => ⟨rfl, Nat.zero_le _⟩
  | n, .str s, _ => ⟨rfl, Nat.zero_le _⟩
  | 0, .tup _, h => by simp [okAt] at h
  | 0, .lst _, h => by simp [okAt] at h
  | n + 1, .tup xs, h => by
    obtain ⟨a, b⟩ := pds_plain (ok_plain n) xs (by simpa [okAt] using h)
    rw [pd, PyData.plain, PyData.depth]
    exact ⟨a, Nat.succ_le_succ b⟩
  | n + 1, .lst xs, h => by
    obtain ⟨a, b⟩ := pds_plain (ok_plain n) xs (by simpa [okAt] using h)
    rw [pd, PyData.plain, PyData.depth]
    exact ⟨a, Nat.succ_le_succ b⟩
  | n, .dic _ _, h => by cases n <;> simp [okAt] at h
  | n, .ins _ _ _, h => by cases n <;> simp [okAt] at h
  | n, .fn _, h => by cases n <;> simp [okAt] at h
  | n, .scr _, h => by cases n <;> simp [okAt] at h
  | n, .ad _, h => by cases n <;> simp [okAt] at h
mutual
theorem Oc.dp {G : Gx} {H : Hp} {S : AS} : ∀ {v : V} {d : D}, Oc G H S v d → (pd d).plain = true → Dp G.K H v (pd d)
  | _, _, .non, _ => .non
  | _, _, .bl b, _ => .bl b
  | _, _, .int i, _ => .int i
  | _, _, .str s, _ => .str s
  | _, _, .lst e _ all, h => .lst (.inl (.inl e)) (Ocs.dp all h)
  | _, _, .tup e _ all, h => .tup e.sq (Ocs.dp all h)
  | _, _, .tupK e all, h => .tup e.sq (Ocs.dp all h)
  | _, _, .dic _ _ _ _, h => by simp [pd, PyData.plain] at h
  | _, _, .ins _ _ _ _, h => by simp [pd, PyData.plain] at h
  | _, _, .fn _, h => by simp [pd, PyData.plain] at h
  | _, _, .scr _ _, h => by simp [pd, PyData.plain] at h
  | _, _, .scrK _, h => by simp [pd, PyData.plain] at h
  | _, _, .ad _, h => by simp [pd, PyData.plain] at h
theorem Ocs.dp {G : Gx} {H : Hp} {S : AS} : ∀ {vs : List V} {ds : List D}, Ocs G H S vs ds → PyData.plainAll (pds ds) = true → DpAll G.K H vs (pds ds)
  | _, _, .nil, _ => .nil
  | _, _, .cons h t, k => by
    rw [pds, PyData.plainAll, Bool.and_eq_true] at k
    exact .cons (Oc.dp h k.1) (Ocs.dp t k.2)
end
theorem Vw.dp {G : Gx} {H : Hp} {S : AS} {v : V} {d : D} (h : Vw G H S v d) (p : (pd d).plain = true) : Dp G.K H v (pd d) := by
  cases h with
  | oc h => exact h.dp p
  | lst e all => exact .lst (.inl (.inl e)) (all.dp p)
  | dic e l all => simp [pd, PyData.plain] at p
  | ins e l all => simp [pd, PyData.plain] at p
/-! ### operators -/
def rOr (r s : R2) : R2 := fun x y H Q => r x y H Q ∨ s x y H Q
theorem op_or2 {X : Cx} {f : Value → Value → Sem Value} {r s : R2} (a : OpR X f r) (b : OpR X f s) : OpR X f (rOr r s) := fun pins st σ H x y v u Q I rx ry h =>
  h.elim (a pins st σ H x y v u Q I rx ry) (b pins st σ H x y v u Q I rx ry)
theorem OpS.or {G : Gx} {r s : R2} {g h : D → D → Option T} (a : OpS G r g) (b : OpS G s h) : OpS G (rOr r s) (fun d e => (g d e).or (h d e)) := fun H S L x y d e t Q rt o1 o2 z q => by
  have z : (g d e).or (h d e) = some t := z
  cases w : g d e with
  | some u =>
    rw [w] at z; cases z
    exact .inl (a H S L x y d e _ Q rt o1 o2 w q)
  | none =>
    rw [w] at z
    exact .inr (b H S L x y d e t Q rt o1 o2 z q)
section
variable {G : Gx}
/-- two ints -/
def gI (C : Int → Int → Bool) (f : Int → Int → D) (d e : D) : Option T := match d, e with
  | .int i, .int j => if C i j then some (.fz (f i j)) else none
  | _, _ => none
theorem ops_I {C : Int → Int → Prop} {c : Int → Int → Bool} {f : Int → Int → V} {g : Int → Int → D} (hc : ∀ i j, c i j = true → C i j) (hf : ∀ H S i j, Oc G H S (f i j) (g i j)) : OpS G (rI C f) (gI c g) := fun H S L x y d e t Q rt o1 o2 z q => by
  unfold gI at z
  split at z
  · next i j =>
    split at z
    · next hcc =>
      cases z
      rw [o1.int_inv, o2.int_inv]
      exact ⟨i, j, rfl, rfl, hc i j hcc, q _ H S (rt.add (hf H S i j))⟩
    · cases z
  · cases z
theorem ops_I0 {f : Int → Int → V} {g : Int → Int → D} (hf : ∀ H S i j, Oc G H S (f i j) (g i j)) : OpS G (rI0 f) (gI (fun _ _ => true) g) := fun H S L x y d e t Q rt o1 o2 z q => by
  unfold gI at z
  split at z
  · next i j =>
    cases z
    rw [o1.int_inv, o2.int_inv]
    exact ⟨i, j, rfl, rfl, q _ H S (rt.add (hf H S i j))⟩
  · cases z
/-- lists -/
def gCatL (d e : D) : Option T := match d, e with
  | .lst xs, .lst ys => if xs.length + ys.length ≤ sizeLine then some (.ol (xs ++ ys)) else none
  | _, _ => none
theorem Same.upd {H : Hp} {p : Addr} {o : HO} (n : H p = none) : Same H (upd H p o) := fun b u e => by rw [upd_ne (ne_of_none e n)]; exact e
theorem ops_catL : OpS G rCat gCatL := fun H S L x y d e t Q rt o1 o2 z q => by
  unfold gCatL at z
  split at z
  · next xs ys =>
    split at z
    · next hz =>
      cases z
      obtain ⟨a, vs, rfl, ea, oa⟩ := o1.lst_inv
      obtain ⟨b, ws, rfl, eb, ob⟩ := o2.lst_inv
      refine ⟨a, b, vs, ws, rfl, rfl, ea, eb, by rw [oa.len, ob.len]; exact hz, fun p hp => q _ _ _ (rt.newL (Same.upd hp) hp upd_same (oa.append ob))⟩
    · cases z
  · cases z
/-- tuples -/
def gCatT (d e : D) : Option T := match d, e with
  | .tup xs, .tup ys => if xs.length + ys.length ≤ sizeLine then some (.fz (.tup (xs ++ ys))) else none
  | _, _ => none
theorem Tp.ne {H : Hp} {a : Addr} {vs : List V} (e : Tp H a true vs) : H a ≠ none := by
  cases e with
  | bare c d e => rw [e]; exact fun z => nomatch z
/-- a new tuple -/
theorem Rt.newT {H H' : Hp} {S : AS} {L : Rl} {p : Addr} {vs : List V} {ds : List D} (r : Rt G H S L) (k : Same H H') (n : H p = none) (e : Tp H' p true vs) (oc : Ocs G H S vs ds) : Rt G H' S ((some (.ref p), .fz (.tup ds)) :: L) :=
  (r.same k).add (.tup e (fun z => r.live p z n) (oc.up (Up.same k)))
theorem ops_catT : OpS G (Lc.rCatF G.K) gCatT := fun H S L x y d e t Q rt o1 o2 z q => by
  unfold gCatT at z
  split at z
  · next xs ys =>
    split at z
    · next hz =>
      cases z
      obtain ⟨a, vs, ea', sa, oa⟩ := o1.tup.tup_inv
      obtain ⟨b, ws, eb', sb, ob⟩ := o2.tup.tup_inv
      subst ea'; subst eb'
      refine ⟨a, b, vs, ws, rfl, rfl, sa, sb, by rw [oa.len, ob.len]; exact hz, fun z => ?_, fun _ z => ?_, fun _ _ p H2 hp k e _ => q _ _ _ (rt.newT k hp e (oa.append ob))⟩
      · have : xs = [] := List.eq_nil_of_length_eq_zero (by rw [← oa.len, z]; rfl)
        subst this
        exact q _ H S (rt.add o2.tup)
      · have : ys = [] := List.eq_nil_of_length_eq_zero (by rw [← ob.len, z]; rfl)
        subst this
        rw [List.append_nil] at q
        exact q _ H S (rt.add o1.tup)
    · cases z
  · cases z
/-- == of plain data -/
def rEqP (K : PySem.W.Frag) (b : Bool) : R2 := fun x y H Q => ∃ d e, Dp K H x d ∧ Dp K H y e ∧ d.plain = true ∧ e.plain = true ∧ min d.depth e.depth ≤ 60 ∧ Q (.bl (if b then PyData.eqv d e else !PyData.eqv d e)) H
theorem op_eqP {X : Cx} (hu : X.A.units + 200 < cLine) : OpR X (compareOp .Eq) (rEqP X.K true) := by
  intro pins s σ H x y v u Q I rx ry h
  obtain ⟨d, e, h1, h2, p1, p2, hd, q⟩ := h
  obtain ⟨as, r1⟩ := Dp.reads I d x v h1 rx
  obtain ⟨bs, r2⟩ := Dp.reads I e y u h2 ry
  exact SeqAt.eq_plain r1 r2 p1 p2 (by omega) ⟨.bl _, H, I, rfl, q⟩
theorem op_neP {X : Cx} (hu : X.A.units + 200 < cLine) : OpR X (compareOp .NotEq) (rEqP X.K false) := by
  intro pins s σ H x y v u Q I rx ry h
  obtain ⟨d, e, h1, h2, p1, p2, hd, q⟩ := h
  obtain ⟨as, r1⟩ := Dp.reads I d x v h1 rx
  obtain ⟨bs, r2⟩ := Dp.reads I e y u h2 ry
  exact SeqAt.ne_plain r1 r2 p1 p2 (by omega) ⟨.bl _, H, I, rfl, q⟩
def gEq (b : Bool) (d e : D) : Option T := if okAt 60 d && okAt 60 e then some (.fz (.bl (if b then d.eqv e else !d.eqv e))) else none
theorem ops_eq {b : Bool} : OpS G (rEqP G.K b) (gEq b) := fun H S L x y d e t Q rt o1 o2 z q => by
  unfold gEq at z
  split at z
  · next h =>
    cases z
    rw [Bool.and_eq_true] at h
    obtain ⟨a, a'⟩ := ok_plain _ _ h.1
    obtain ⟨c, c'⟩ := ok_plain _ _ h.2
    exact ⟨pd d, pd e, o1.dp a, o2.dp c, a, c, by omega, q _ H S (rt.add (.bl _))⟩
  · cases z
def rInP (K : PySem.W.Frag) (b : Bool) : R2 := fun x y H Q => ∃ d ds, Dp K H x d ∧ (Dp K H y (.list ds) ∨ Dp K H y (.tuple ds)) ∧ d.plain = true ∧ PyData.plainAll ds = true ∧ d.depth ≤ 60 ∧ Q (.bl (if b then ds.any (fun z => PyData.eqv z d) else !ds.any fun z => PyData.eqv z d)) H
theorem op_inP {X : Cx} (hu : X.A.units + 200 < cLine) : OpR X (compareOp .In) (rInP X.K true) := by
  intro pins s σ H x y v u Q I rx ry h
  obtain ⟨d, ds, h1, h2, p1, p2, hd, q⟩ := h
  obtain ⟨as, r1⟩ := Dp.reads I d x v h1 rx
  rcases h2 with h2 | h2
  · obtain ⟨bs, r2⟩ := Dp.reads I _ y u h2 ry
    exact SeqAt.in_list_data r2 r1 p2 p1 (by omega) ⟨.bl _, H, I, rfl, q⟩
  · obtain ⟨bs, r2⟩ := Dp.reads I _ y u h2 ry
    exact SeqAt.in_tuple_data r2 r1 p2 p1 (by omega) ⟨.bl _, H, I, rfl, q⟩
theorem op_ninP {X : Cx} (hu : X.A.units + 200 < cLine) : OpR X (compareOp .NotIn) (rInP X.K false) := by
  intro pins s σ H x y v u Q I rx ry h
  obtain ⟨d, ds, h1, h2, p1, p2, hd, q⟩ := h
  obtain ⟨as, r1⟩ := Dp.reads I d x v h1 rx
  rcases h2 with h2 | h2
  · obtain ⟨bs, r2⟩ := Dp.reads I _ y u h2 ry
    exact SeqAt.notIn_list_data r2 r1 p2 p1 (by omega) ⟨.bl _, H, I, rfl, q⟩
  · obtain ⟨bs, r2⟩ := Dp.reads I _ y u h2 ry
    exact SeqAt.notIn_tuple_data r2 r1 p2 p1 (by omega) ⟨.bl _, H, I, rfl, q⟩
def D.items : D → Option (List D)
  | .lst xs => some xs
  | .tup xs => some xs
  | _ => none
def gIn (b : Bool) (d e : D) : Option T := match e.items with
  | some xs => if okAt 60 d && xs.all (okAt 60) then some (.fz (.bl (if b then xs.any (fun z => z.eqv d) else !xs.any fun z => z.eqv d))) else none
  | none => none
theorem any_pds (d : D) (xs : List D) : (pds xs).any (fun z => PyData.eqv z (pd d)) = xs.any fun z => z.eqv d := by
  rw [pds_map, List.any_map]; rfl
theorem ops_in {b : Bool} : OpS G (rInP G.K b) (gIn b) := fun H S L x y d e t Q rt o1 o2 z q => by
  unfold gIn at z
  split at z
  · next xs he =>
    split at z
    · next h =>
      cases z
      rw [Bool.and_eq_true] at h
      obtain ⟨a, a'⟩ := ok_plain _ _ h.1
      obtain ⟨c, _⟩ := pds_plain (ok_plain 60) xs h.2
      refine ⟨pd d, pds xs, o1.dp a, ?_, a, c, a', by rw [any_pds]; exact q _ H S (rt.add (.bl _))⟩
      unfold D.items at he
      split at he
      · cases he; exact .inl (o2.dp c)
      · cases he; exact .inr (o2.dp c)
      · cases he
    · cases z
  · cases z
end
end Rx

namespace Rx
open PySem PySem.Spec PyProof.Rows L2 RZ PySem.W
open Lc (Tp AS And1 ButS Lv)
/-! ### the operators, one by one -/
def cLog (i j : Int) : Bool := decide (i.natAbs.log2 < 400000) && decide (j.natAbs.log2 < 400000)
def gAdd (d e : D) : Option T := ((gI (fun _ _ => true) (fun i j => .int (i + j)) d e).or (gCatL d e)).or (gCatT d e)
def rAdd (K : PySem.W.Frag) : R2 := rOr (rOr (rI0 fun i j => .int (i + j)) rCat) (Lc.rCatF K)
def gSub (d e : D) : Option T := gI (fun _ _ => true) (fun i j => .int (i - j)) d e
def gMul1 (d e : D) : Option T := gI cLog (fun i j => .int (i * j)) d e
def gMulT (d e : D) : Option T := match d, e with
  | .tup xs, .int k => if xs ≠ [] ∧ 1 ≤ k ∧ k ≤ 1000 ∧ xs.length ≤ 1000 then some (.fz (.tup (List.replicate k.toNat xs).flatten)) else none
  | _, _ => none
def gMod (d e : D) : Option T := gI (fun _ j => decide (0 < j)) (fun i j => .int (i % j)) d e
def gDiv (d e : D) : Option T := gI (fun _ j => decide (0 < j) && decide (j.natAbs.log2 < 9000)) (fun i j => .int (i / j)) d e
def gPow (d e : D) : Option T := gI (fun i j => decide (0 ≤ j) && decide (j ≤ 1000) && decide (i.natAbs < 2 ^ 64)) (fun i j => .int (i ^ j.toNat)) d e
def gLt (d e : D) : Option T := gI (fun _ _ => true) (fun i j => .bl (decide (i < j))) d e
def gLe (d e : D) : Option T := gI (fun _ _ => true) (fun i j => .bl (decide (i ≤ j))) d e
def gGt (d e : D) : Option T := gI (fun _ _ => true) (fun i j => .bl (decide (j < i))) d e
def gGe (d e : D) : Option T := gI (fun _ _ => true) (fun i j => .bl (decide (j ≤ i))) d e
section
variable {G : Gx} {X : Cx}
theorem op_Add (hK : X.K = G.K) : OpR X (binaryOp .Add) (rAdd G.K) := op_or2 (op_or2 op_add op_cat) (by rw [← hK]; exact Lc.op_catF)
theorem ops_Add : OpS G (rAdd G.K) gAdd := ((ops_I0 fun _ _ _ _ => .int _).or ops_catL).or ops_catT
theorem ops_Sub : OpS G (rI0 fun i j => .int (i - j)) gSub := ops_I0 fun _ _ _ _ => .int _
theorem ops_Mul : OpS G (rI CMulW fun i j => .int (i * j)) gMul1 := ops_I (fun i j h => by
  unfold cLog at h
  rw [Bool.and_eq_true, decide_eq_true_eq, decide_eq_true_eq] at h
  show _ < _
  omega) fun _ _ _ _ => .int _
theorem ops_Mod : OpS G (rI (fun _ j => 0 < j) fun i j => .int (i % j)) gMod := ops_I (fun i j h => of_decide_eq_true h) fun _ _ _ _ => .int _
theorem ops_Div : OpS G (rI CDivW fun i j => .int (i / j)) gDiv := ops_I (fun i j h => by
  rw [Bool.and_eq_true, decide_eq_true_eq, decide_eq_true_eq] at h
  exact h) fun _ _ _ _ => .int _
theorem ops_Pow : OpS G (rI CPow fun i j => .int (i ^ j.toNat)) gPow := ops_I (fun i j h => by
  rw [Bool.and_eq_true, Bool.and_eq_true, decide_eq_true_eq, decide_eq_true_eq, decide_eq_true_eq] at h
  exact ⟨h.1.1, by omega, h.2⟩) fun _ _ _ _ => .int _
theorem ops_Lt : OpS G (rI0 fun i j => .bl (decide (i < j))) gLt := ops_I0 fun _ _ _ _ => .bl _
theorem ops_Le : OpS G (rI0 fun i j => .bl (decide (i ≤ j))) gLe := ops_I0 fun _ _ _ _ => .bl _
theorem ops_Gt : OpS G (rI0 fun i j => .bl (decide (j < i))) gGt := ops_I0 fun _ _ _ _ => .bl _
theorem ops_Ge : OpS G (rI0 fun i j => .bl (decide (j ≤ i))) gGe := ops_I0 fun _ _ _ _ => .bl _
end
/-! ### is -/
def rIsC (w : V) (b : Bool) : R2 := fun x y H Q => y = w ∧ Q (.bl (if b then decide (x = w) else !decide (x = w))) H
/-- x is None, True, False -/
def gIs (b : Bool) (d e : D) : Option T := match e with
  | .non => match d with
    | .non => some (.fz (.bl b))
    | _ => some (.fz (.bl (!b)))
  | .bl k => match d with
    | .bl j => some (.fz (.bl (if b then decide (j = k) else !decide (j = k))))
    | _ => some (.fz (.bl (!b)))
  | _ => none
section
variable {G : Gx} {W : WX} {X : Cx} {a b c e : Expr} {m n k : M T} {p q : Opd} {pos : Pos} {r r' : R2} {g g' : D → D → Option T} {β : Type}
theorem pm_bin {op : Operator} (ho : OpR X (binaryOp op) r) (hr : OpS G r g) (ha : PMo G W X a p) (hb : PMo G W X b q) : PM G W X (.BinOp a op b pos) (mBin g p q) :=
  pe_mono (pe_op ho ha hb) fun _ _ _ q => mBin_run hr q
theorem pm_cmp {op : CmpOp} (ho : OpR X (compareOp op) r) (hr : OpS G r g) (ha : PMo G W X a p) (hb : PMo G W X b q) (hm : behindInMarks op b = false) : PM G W X (.Compare a [op] [b] pos) (mBin g p q) :=
  pe_mono (pe_cmpR ho ha hb hm) fun _ _ _ q => mBin_run hr q
/-! ### truth -/
def D.tru : D → Option Bool
  | .non => some false
  | .bl b => some b
  | .int i => some (i != 0)
  | .str s => if s.length ≤ sizeLine then some ((s.length : Int) != 0) else none
  | .tup xs => some (!xs.isEmpty)
  | .lst xs => some (!xs.isEmpty)
  | .dic ks _ => some (!ks.isEmpty)
  | _ => none
def mTru (a : Opd) : M Bool := a.ev.bind fun x => fun ρ => match a.get x ρ with
  | some d => M.opt d.tru ρ
  | _ => none
theorem emp_zip {ks : List Key} {vs : List V} (l : ks.length = vs.length) : (!ks.isEmpty) = !(ks.zip vs).isEmpty := by
  cases ks with
  | nil => rfl
  | cons k ks =>
    cases vs with
    | nil => simp at l
    | cons v vs => rfl
theorem Vw.tru {H : Hp} {S : AS} {v : V} {d : D} {t : Bool} (h : Vw G H S v d) (e : d.tru = some t) : TruV G.K v H t := by
  cases d with
  | non => cases e; cases h with | oc h => cases h; rfl
  | bl b => cases e; rw [h.bl_inv]; rfl
  | int i => cases e; rw [h.int_inv]; rfl
  | str s =>
    rw [h.str_inv]
    have e : (if s.length ≤ sizeLine then some ((s.length : Int) != 0) else none) = some t := e
    split at e
    · next hz => cases e; exact ⟨hz, rfl⟩
    · cases e
  | lst xs =>
    cases e
    obtain ⟨a, vs, rfl, h1, all⟩ := h.lst_inv
    refine .inl ⟨_, .inl (.inl h1), ?_⟩
    cases all <;> rfl
  | tup xs =>
    cases e
    obtain ⟨a, vs, rfl, h1, all⟩ := h.tup.tup_inv
    refine .inr (.inl ⟨_, h1, ?_⟩)
    cases all <;> rfl
  | dic ks xs =>
    cases e
    obtain ⟨a, vs, rfl, h1, l, all⟩ := h.dic_inv
    exact .inr (.inr ⟨_, h1, emp_zip l⟩)
  | ins _ _ _ => cases e
  | fn n => cases e
  | scr _ => cases e
  | ad _ => cases e
theorem mTru_go {σ : L2.St} {H : Hp} {Q : Bool → Hp → Prop} (h : TTo G W (mTru p) σ H Q) : p.te G W σ H (fun x H' => ∃ k, TruV G.K x H' k ∧ Q k H') := by
  obtain ⟨S, ρ, F, o, e, h, q⟩ := h
  refine Opd.go e h q.hx fun x ρ1 v H1 S1 h1 e1 a1 => ?_
  cases z1 : p.get x ρ1 with
  | none => rw [z1] at h1; cases h1
  | some d1 =>
    rw [z1] at h1
    unfold M.opt at h1
    dsimp only at h1
    cases z : d1.tru with
    | none => rw [z] at h1; cases h1
    | some t =>
      rw [z] at h1; cases h1
      have w1 := Opd.see a1 e1 (fun r hr => List.mem_append_left _ hr) z1
      obtain ⟨S3, u3, e3⟩ := En.drops (L := p.fr v x) (F' := F) e1 rfl
      exact ⟨t, w1.tru z, q H1 S3 e3⟩
theorem pmt_val (hK : X.K = G.K) (ha : PMo G W X a p) (he : ∀ whole, isTrue a X.env whole = (do let v ← whole; standAt a.pos; holding [v] (truthy v)) := by intro _; rfl) : PMt G W X a (mTru p) :=
  pt_mono (pt_truth ha he) fun σ H Q q => by rw [hK]; exact mTru_go q
/-- an expression whose value is a bool -/
def isB : D → M Bool
  | .bl b => M.ret b
  | _ => fun _ => none
def mBool (m : M T) : M Bool := (mD m).bind isB
theorem isB_inv {d : D} {ρ : Env} {o : O Bool} (h : isB d ρ = some o) : ∃ b, d = .bl b ∧ o = .ok b ρ := by
  cases d with
  | bl b => cases h; exact ⟨b, rfl, rfl⟩
  | _ => cases h
theorem mBool_go {σ : L2.St} {H : Hp} {Q : Bool → Hp → Prop} (q : TTo G W (mBool m) σ H Q) : TEo G W m σ H (fun x H' => ∃ k, x = .bl k ∧ Q k H') := by
  obtain ⟨S, ρ, F, o, e, h, q⟩ := q
  refine TEo.goD e h q.hx fun d ρ1 x H1 S1 h1 e1 => ?_
  obtain ⟨b, rfl, rfl⟩ := isB_inv h1
  obtain ⟨S2, _, e2⟩ := e1.drop
  exact ⟨_, e1.fz.bl_inv, q H1 S2 e2⟩
theorem pmt_bool (ha : PM G W X a m) (he : ∀ whole, isTrue a X.env whole = (do let v ← whole; standAt a.pos; holding [v] (truthy v)) := by intro _; rfl) : PMt G W X a (mBool m) :=
  pt_mono (pt_val ha he) fun σ H Q q => mBool_go q
theorem mBinT_run (hr : OpS G r g) {σ : L2.St} {H : Hp} {Q : Bool → Hp → Prop} (h : TTo G W (mBool (mBin g p q)) σ H Q) : tTest (tOp r (p.te G W) (q.te G W)) σ H Q := by
  obtain ⟨S, ρ, F, o, e, h, hq⟩ := h
  unfold mBool mD at h
  rw [bind_assoc] at h
  refine mBin_go hr e h hq.hx fun t ρ1 v H1 S1 h1 e1 => ?_
  obtain ⟨d, hd, h1⟩ := bind_opt h1
  obtain ⟨b, rfl, rfl⟩ := isB_inv h1
  obtain ⟨S2, _, e2⟩ := e1.frz hd
  obtain ⟨S3, _, e3⟩ := e2.drop
  exact ⟨b, e2.fz.bl_inv, hq H1 S3 e3⟩
theorem pmt_cmp {op : CmpOp} (ho : OpR X (compareOp op) r) (hr : OpS G r g) (ha : PMo G W X a p) (hbb : PMo G W X b q) (hm : behindInMarks op b = false) : PMt G W X (.Compare a [op] [b] pos) (mBool (mBin g p q)) :=
  pt_mono (pt_cmpR ho ha hbb hm) fun _ _ _ q => mBinT_run hr q
/-! ### chains -/
def mChain (g g' : D → D → Option T) (m n k : M T) : M T := (mD m).bind fun d => (mD n).bind fun e => (M.opt ((g d e).bind T.fr)).bind fun b => match b with
  | .bl true => (mD k).bind fun f => M.opt (g' e f)
  | .bl false => mC (.bl false)
  | _ => fun _ => none
theorem mChain_run (hr : OpS G r g) (hr' : OpS G r' g') {σ : L2.St} {H : Hp} {Q : VK} (q : TEo G W (mChain g g' m n k) σ H Q) : tChain r r' (TEo G W m) (TEo G W n) (TEo G W k) σ H Q := by
  obtain ⟨S, ρ, F, o, e, h, q⟩ := q
  refine TEo.goD e h q.hx fun d ρ1 x H1 S1 h1 e1 => ?_
  refine TEo.goD e1 h1 (fun x ρ' z => (q.hx x ρ' z).mono) fun d2 ρ2 y H2 S2 h2 e2 => ?_
  obtain ⟨b, hb, h3⟩ := bind_opt h2
  cases z : g d d2 with
  | none => rw [z] at hb; cases hb
  | some t =>
    rw [z] at hb
    have o1 : Oc G H2 S2 x d := (e2.frame (List.Perm.swap _ _ _)).fz
    refine hr H2 S2 _ x y d d2 _ _ (e2.rt) (.oc o1) (.oc e2.fz) z fun v H' S' r' => ?_
    have e' := En.ofHead (v := some v) (t := t) e2.len (r'.perm (List.Perm.refl _))
    obtain ⟨S5, _, e5⟩ := e'.frz hb
    split at h3
    · refine ⟨true, e5.fz.bl_inv, ?_⟩
      rw [if_pos rfl]
      obtain ⟨S6, _, e6⟩ := e5.drop
      refine TEo.goD e6 h3 (fun x ρ' z => ((q.hx x ρ' z).mono).mono) fun f ρ3 w H3 S3 h4 e7 => ?_
      unfold M.opt at h4
      cases z2 : g' d2 f with
      | none => rw [z2] at h4; cases h4
      | some t2 =>
        rw [z2] at h4; cases h4
        have oy : Oc G H3 S3 y d2 := (e7.frame (List.Perm.swap _ _ _)).fz
        obtain ⟨S8, u8, e8⟩ := e7.drop
        obtain ⟨S9, u9, e9⟩ := e8.drop
        obtain ⟨S10, u10, e10⟩ := e9.drop
        have u := (u8.trans u9).trans u10
        exact hr' H3 S10 _ y w d2 f t2 Q e10.rt (.oc (oy.up u)) (.oc (e7.fz.up u)) z2 fun v H' S' r' => q v H' S' (En.ofHead e10.len r')
    · refine ⟨false, e5.fz.bl_inv, ?_⟩
      rw [if_neg Bool.false_ne_true]
      cases h3
      obtain ⟨S6, _, e6⟩ := e5.drop
      obtain ⟨S7, _, e7⟩ := e6.drop
      obtain ⟨S8, _, e8⟩ := e7.drop
      exact q _ _ S8 (e8.add (.bl false))
    · cases h3
theorem pm_chain {op op' : CmpOp} (ho : OpR X (compareOp op) r) (hr : OpS G r g) (ho' : OpR X (compareOp op') r') (hr' : OpS G r' g') (ha : PM G W X a m) (hb : PM G W X b n) (hc : PM G W X c k)
    (hm : lastMarks [op, op'] [b, c] = false := by with_unfolding_all rfl) : PM G W X (.Compare a [op, op'] [b, c] pos) (mChain g g' m n k) := pe_mono (pe_chain ho ho' ha hb hc hm) fun _ _ _ q => mChain_run hr hr' q
theorem pmt_chain {op op' : CmpOp} (ho : OpR X (compareOp op) r) (hr : OpS G r g) (ho' : OpR X (compareOp op') r') (hr' : OpS G r' g') (ha : PM G W X a m) (hb : PM G W X b n) (hc : PM G W X c k)
    (hm : lastMarks [op, op'] [b, c] = false := by with_unfolding_all rfl) : PMt G W X (.Compare a [op, op'] [b, c] pos) (mBool (mChain g g' m n k)) := pt_mono (pt_chain ho ho' ha hb hc hm) fun σ H Q q => by
  obtain ⟨S, ρ, F, o, e, h, q⟩ := q
  have h2 : TEo G W (mChain g g' m n k) σ H (fun x H' => ∃ k, x = .bl k ∧ Q k H') := mBool_go ⟨S, ρ, F, o, e, h, q⟩
  exact mChain_run hr hr' h2
end
end Rx

namespace Rx
open PySem PySem.Spec PyProof.Rows L2 RZ PySem.W
open Lc (Tp AS And1 ButS Lv)
section
variable {G : Gx} {W : WX} {X : Cx} {a b c e : Expr} {es rest : List Expr} {m n : M T} {tm tn : M Bool} {p q : Opd} {pos : Pos} {σ : L2.St} {H : Hp} {S : AS} {ρ : Env} {F : Rl} {β : Type} {o : O β}
/-! ### and, or, not, if as values -/
def mNot (p : Opd) : M T := (mTru p).bind fun b => mC (.bl (!b))
theorem mTru_bind {f : Bool → M β} {K : Bool → Hp → Prop} (e : En G H S σ ρ F) (hm : (mTru p).bind f ρ = some o) (hx : ∀ x ρ', o = .ex x ρ' → ExF G W σ F x ρ')
    (k : ∀ b ρ1 H1 S1, f b ρ1 = some o → En G H1 S1 σ ρ1 F → K b H1) : p.te G W σ H (fun x H' => ∃ k, TruV G.K x H' k ∧ K k H') := by
  unfold mTru at hm
  rw [bind_assoc] at hm
  refine Opd.go e hm hx fun x ρ1 v H1 S1 h1 e1 a1 => ?_
  unfold M.bind at h1
  cases z1 : p.get x ρ1 with
  | none => dsimp only at h1; rw [z1] at h1; cases h1
  | some d1 =>
    dsimp only at h1
    rw [z1] at h1
    unfold M.opt at h1
    dsimp only at h1
    cases z : d1.tru with
    | none => rw [z] at h1; cases h1
    | some t =>
      rw [z] at h1
      have w1 := Opd.see a1 e1 (fun r hr => List.mem_append_left _ hr) z1
      obtain ⟨S3, u3, e3⟩ := En.drops (L := p.fr v x) (F' := F) e1 rfl
      exact ⟨t, w1.tru z, k t ρ1 H1 S3 h1 e3⟩
theorem pm_not (hK : X.K = G.K) (ha : PMo G W X a p) : PM G W X (.UnaryOp .Not a pos) (mNot p) := pe_mono (L2.pe_notT ha) fun σ H Q ⟨S, ρ, F, o, e, h, q⟩ => by
  rw [hK]
  refine mTru_bind e h q.hx fun b ρ1 H1 S1 h1 e1 => ?_
  cases h1
  exact q _ H1 S1 (e1.add (.bl _))
def mIf (t : M Bool) (m n : M T) : M T := t.bind fun b => match b with
  | true => m
  | false => n
theorem pm_if (hc : PMt G W X c tm) (ha : PM G W X a m) (hb : PM G W X b n) : PM G W X (.IfExp c a b pos) (mIf tm m n) := pe_mono (pe_ifExp hc ha hb) fun σ H Q ⟨S, ρ, F, o, e, h, q⟩ => by
  refine TTo.go e h q.hx fun b ρ1 H1 S1 h1 e1 => ?_
  cases b with
  | true => rw [if_pos rfl]; exact ⟨S1, ρ1, F, o, e1, h1, q⟩
  | false => rw [if_neg Bool.false_ne_true]; exact ⟨S1, ρ1, F, o, e1, h1, q⟩
def mAnd (m n : M T) : M T := (mD m).bind fun d => (M.opt d.tru).bind fun b => match b with
  | true => n
  | false => M.ret (.fz d)
def mOr (m n : M T) : M T := (mD m).bind fun d => (M.opt d.tru).bind fun b => match b with
  | true => M.ret (.fz d)
  | false => n
theorem pm_one {op} (ha : PM G W X a m) : PM G W X (.BoolOp op [a] pos) m := pe_one ha
theorem pm_and (hK : X.K = G.K) (ha : PM G W X a m) (hb : PM G W X (.BoolOp .And (b :: rest) pos) n) : PM G W X (.BoolOp .And (a :: b :: rest) pos) (mAnd m n) := pe_mono (L2.pe_andT ha hb) fun σ H Q ⟨S, ρ, F, o, e, h, q⟩ => by
  rw [hK]
  refine TEo.goD e h q.hx fun d ρ1 v H1 S1 h1 e1 => ?_
  obtain ⟨k, hk, h1⟩ := bind_opt h1
  refine ⟨k, (Vw.oc e1.fz).tru hk, ?_⟩
  cases k with
  | true =>
    rw [if_pos rfl]
    obtain ⟨S2, _, e2⟩ := e1.drop
    exact ⟨S2, ρ1, F, o, e2, h1, q⟩
  | false =>
    rw [if_neg Bool.false_ne_true]
    cases h1
    exact q v H1 S1 e1
theorem pm_or (hK : X.K = G.K) (ha : PM G W X a m) (hb : PM G W X (.BoolOp .Or (b :: rest) pos) n) : PM G W X (.BoolOp .Or (a :: b :: rest) pos) (mOr m n) := pe_mono (L2.pe_orT ha hb) fun σ H Q ⟨S, ρ, F, o, e, h, q⟩ => by
  rw [hK]
  refine TEo.goD e h q.hx fun d ρ1 v H1 S1 h1 e1 => ?_
  obtain ⟨k, hk, h1⟩ := bind_opt h1
  refine ⟨k, (Vw.oc e1.fz).tru hk, ?_⟩
  cases k with
  | true =>
    rw [if_pos rfl]
    cases h1
    exact q v H1 S1 e1
  | false =>
    rw [if_neg Bool.false_ne_true]
    obtain ⟨S2, _, e2⟩ := e1.drop
    exact ⟨S2, ρ1, F, o, e2, h1, q⟩
/-! ### .. as tests -/
def PMw (G : Gx) (W : WX) (X : Cx) (e : Expr) (m : M Bool) : Prop := PW X e (TTo G W m)
theorem pw_mono {e : Expr} {t t' : TT} (h : PW X e t) (k : ∀ σ H Q, t' σ H Q → t σ H Q) : PW X e t' := ⟨fun wh pins s σ H Q I q => h.run wh pins s σ H Q I (k σ H Q q)⟩
def tmNot (t : M Bool) : M Bool := t.bind fun b => M.ret (!b)
def tmAnd (t u : M Bool) : M Bool := t.bind fun b => match b with
  | true => u
  | false => M.ret false
def tmOr (t u : M Bool) : M Bool := t.bind fun b => match b with
  | true => M.ret true
  | false => u
theorem pmt_not (ha : PMt G W X a tm) : PMt G W X (.UnaryOp .Not a pos) (tmNot tm) := pt_mono (pt_not ha) fun σ H Q ⟨S, ρ, F, o, e, h, q⟩ => by
  refine TTo.go e h q.hx fun b ρ1 H1 S1 h1 e1 => ?_
  cases h1
  exact q H1 S1 e1
theorem pmw_and1 (ha : PMt G W X a tm) : PMw G W X (.BoolOp .And [a] pos) tm := pw_and1 ha
theorem pmw_or1 (ha : PMt G W X a tm) : PMw G W X (.BoolOp .Or [a] pos) tm := pw_or1 ha
theorem pmw_and (ha : PMt G W X a tm) (hb : PMw G W X (.BoolOp .And (b :: rest) pos) tn) : PMw G W X (.BoolOp .And (a :: b :: rest) pos) (tmAnd tm tn) := pw_mono (pw_and ha hb) fun σ H Q ⟨S, ρ, F, o, e, h, q⟩ => by
  refine TTo.go e h q.hx fun b ρ1 H1 S1 h1 e1 => ?_
  cases b with
  | true => rw [if_pos rfl]; exact ⟨S1, ρ1, F, o, e1, h1, q⟩
  | false => rw [if_neg Bool.false_ne_true]; cases h1; exact q H1 S1 e1
theorem pmw_or (ha : PMt G W X a tm) (hb : PMw G W X (.BoolOp .Or (b :: rest) pos) tn) : PMw G W X (.BoolOp .Or (a :: b :: rest) pos) (tmOr tm tn) := pw_mono (pw_or ha hb) fun σ H Q ⟨S, ρ, F, o, e, h, q⟩ => by
  refine TTo.go e h q.hx fun b ρ1 H1 S1 h1 e1 => ?_
  cases b with
  | true => rw [if_pos rfl]; cases h1; exact q H1 S1 e1
  | false => rw [if_neg Bool.false_ne_true]; exact ⟨S1, ρ1, F, o, e1, h1, q⟩
theorem pmw_pt (h : PMw G W X a tm) : PMt G W X a tm := PW.pt h
/-! ### items of displays -/
def rtd (vs : List V) (ds : List D) : Rl := (vs.map some).zip (ds.map T.fz)
def OutD (G : Gx) (W : WX) (σ : L2.St) (F : Rl) (Q : List V → Hp → Prop) : O (List D) → Prop
  | .ok ds ρ => ∀ vs H S, vs.length = ds.length → En G H S σ ρ (rtd vs ds ++ F) → Q vs H
  | .ex x ρ => ExF G W σ F x ρ
theorem OutD.hx {Q : List V → Hp → Prop} {o : O (List D)} (h : OutD G W σ F Q o) : ∀ x ρ', o = .ex x ρ' → ExF G W σ F x ρ' := fun x ρ' e => by subst e; exact h
def TDo (G : Gx) (W : WX) (m : M (List D)) : TA := fun σ H Q => ∃ S ρ F o, En G H S σ ρ F ∧ m ρ = some o ∧ OutD G W σ F Q o
def PMd (G : Gx) (W : WX) (X : Cx) (es : List Expr) (m : M (List D)) : Prop := PA X es (TDo G W m)
theorem TDo.go {m : M (List D)} {f : List D → M β} {K : List V → Hp → Prop} (e : En G H S σ ρ F) (hm : m.bind f ρ = some o) (hx : ∀ x ρ', o = .ex x ρ' → ExF G W σ F x ρ')
    (k : ∀ ds ρ1 vs H1 S1, vs.length = ds.length → f ds ρ1 = some o → En G H1 S1 σ ρ1 (rtd vs ds ++ F) → K vs H1) : TDo G W m σ H K := by
  unfold M.bind at hm
  cases q : m ρ with
  | none => rw [q] at hm; cases hm
  | some r =>
    rw [q] at hm
    refine ⟨S, ρ, F, r, e, q, ?_⟩
    cases r with
    | ok t ρ1 => exact fun vs H1 S1 hl e1 => k t ρ1 vs H1 S1 hl hm e1
    | ex x ρ1 => exact hx x ρ1 (Option.some.inj hm).symm
theorem rtd_mem : ∀ {vs : List V} {ds : List D}, vs.length = ds.length → (∀ r ∈ rtd vs ds, r ∈ F) → Rt G H S F → Ocs G H S vs ds
  | [], [], _, _, _ => .nil
  | [], _ :: _, l, _, _ => by simp at l
  | _ :: _, [], l, _, _ => by simp at l
  | v :: vs, d :: ds, l, h, r => .cons (r.fzm (h _ List.mem_cons_self)) (rtd_mem (by simpa using l) (fun x hx => h x (List.mem_cons_of_mem _ hx)) r)
theorem En.ocs {vs : List V} {ds : List D} (e : En G H S σ ρ (rtd vs ds ++ F)) (l : vs.length = ds.length) : Ocs G H S vs ds :=
  rtd_mem l (fun r hr => List.mem_append_right _ (List.mem_append_left _ hr)) e.rt
def aNil : M (List D) := M.ret []
def aCons (m : M T) (r : M (List D)) : M (List D) := (mD m).bind fun d => r.bind fun ds => M.ret (d :: ds)
def aStar (p : Opd) (r : M (List D)) : M (List D) := p.ev.bind fun x => fun ρ => match p.get x ρ with
  | some d => match d.items with
    | some xs => (r.bind fun ds => M.ret (xs ++ ds)) ρ
    | none => none
  | none => none
theorem pmd_nil : PMd G W X [] aNil := pa_mono pa_nil fun σ H Q ⟨S, ρ, F, o, e, h, q⟩ => by
  cases h
  exact q [] H S rfl e
theorem pmd_cons {r : M (List D)} (ha : PM G W X e m) (hr : PMd G W X es r) (hs : starEach (e :: es) X.env = (false, eval e X.env) :: starEach es X.env := by rfl) : PMd G W X (e :: es) (aCons m r) := pa_mono (pa_cons ha hr hs) fun σ H Q ⟨S, ρ, F, o, e, h, q⟩ => by
  refine TEo.goD e h q.hx fun d ρ1 v H1 S1 h1 e1 => ?_
  refine TDo.go e1 h1 (fun x ρ' z => (q.hx x ρ' z).mono) fun ds ρ2 vs H2 S2 l h2 e2 => ?_
  cases h2
  exact q (v :: vs) H2 S2 (by simp [l]) (e2.frame List.perm_middle)
theorem Vw.items {v : V} {d : D} {xs : List D} (h : Vw G H S v d) (z : d.items = some xs) : ∃ a vs, v = .ref a ∧ (SqT G.K H a vs ∨ SqL G.K H a vs) ∧ Ocs G H S vs xs := by
  unfold D.items at z
  split at z
  · cases z
    obtain ⟨a, vs, h1, h2, h3⟩ := h.lst_inv
    exact ⟨a, vs, h1, .inr (.inl (.inl h2)), h3⟩
  · cases z
    obtain ⟨a, vs, h1, h2, h3⟩ := h.tup.tup_inv
    exact ⟨a, vs, h1, .inl h2, h3⟩
  · cases z
theorem Rt.adds (r : Rt G H S F) : ∀ {vs : List V} {ds : List D}, Ocs G H S vs ds → Rt G H S (rtd vs ds ++ F)
  | _, _, .nil => r
  | _, _, .cons h t => (Rt.adds r t).add h
theorem En.adds {vs : List V} {ds : List D} (e : En G H S σ ρ F) (oc : Ocs G H S vs ds) : En G H S σ ρ (rtd vs ds ++ F) :=
  ⟨e.len, (e.rt.adds oc).perm (List.perm_append_comm_assoc _ _ _)⟩
theorem pmd_star {r : M (List D)} {pp : Pos} (hK : X.K = G.K) (ha : PMo G W X e p) (hr : PMd G W X es r) (hs : starEach (.Starred e pp :: es) X.env = (true, eval e X.env) :: starEach es X.env := by rfl) : PMd G W X (.Starred e pp :: es) (aStar p r) := pa_mono (StX.pa_star ha hr hs) fun σ H Q ⟨S, ρ, F, o, e, h, q⟩ => by
  rw [hK]
  refine Opd.go e h q.hx fun x ρ1 v H1 S1 h1 e1 a1 => ?_
  cases z1 : p.get x ρ1 with
  | none => rw [z1] at h1; cases h1
  | some d1 =>
    rw [z1] at h1
    dsimp only at h1
    cases z : d1.items with
    | none => rw [z] at h1; cases h1
    | some xs =>
      rw [z] at h1
      have w1 := Opd.see a1 e1 (fun r hr => List.mem_append_left _ hr) z1
      obtain ⟨S3, u3, e3⟩ := En.drops (L := p.fr v x) (F' := F) e1 rfl
      obtain ⟨a, vs, rfl, sq, oc⟩ := (w1.up u3 rfl).items z
      refine ⟨a, vs, rfl, sq, ?_⟩
      refine TDo.go (e3.adds oc) h1 (fun x ρ' z => (q.hx x ρ' z).monos _) fun ds ρ2 ws H2 S2 l h2 e2 => ?_
      cases h2
      have lx := oc.len
      refine q (vs ++ ws) H2 S2 (by simp [l, lx]) (e2.frame ?_)
      unfold rtd
      rw [List.map_append, List.map_append, List.zip_append (by simp [lx]), List.append_assoc]
      exact List.perm_append_comm_assoc _ _ _
/-! ### tuples, lists -/
def sizeOk (n : Nat) : Bool := decide (n ≤ sizeLine)
def mTup (r : M (List D)) : M T := r.bind fun ds => M.opt (if sizeOk ds.length then some (.fz (.tup ds)) else none)
def mLst (r : M (List D)) : M T := r.bind fun ds => M.opt (if sizeOk ds.length then some (.ol ds) else none)
theorem En.dropd {vs : List V} {ds : List D} (e : En G H S σ ρ (rtd vs ds ++ F)) (l : vs.length = ds.length) : ∃ S', Up H S H S' ∧ En G H S' σ ρ F ∧ Ocs G H S' vs ds := by
  obtain ⟨S', u, e'⟩ := En.drops (L := rtd vs ds) (F' := F) e rfl
  exact ⟨S', u, e', (e.ocs l).up u⟩
theorem pm_tup {r : M (List D)} {k : Nat} (h : PMd G W X es r) : PM G W X (.Tuple es k pos) (mTup r) := pe_mono (Lc.pe_tupF h) fun σ H Q ⟨S, ρ, F, o, e, h, q⟩ => by
  refine TDo.go e h q.hx fun ds ρ1 vs H1 S1 l h1 e1 => ?_
  unfold M.opt at h1
  split at h1
  · next z =>
    split at z
    · next hz =>
      cases z; cases h1
      obtain ⟨S2, u2, e2, oc⟩ := e1.dropd l
      refine ⟨by rw [l]; exact of_decide_eq_true hz, fun p H2 hp k tp _ => q _ H2 S2 (En.ofHead e2.len (e2.rt.newT k hp tp oc))⟩
    · cases z
  · cases h1
theorem pm_lst {r : M (List D)} (h : PMd G W X es r) : PM G W X (.List es pos) (mLst r) := pe_mono (pe_lst h) fun σ H Q ⟨S, ρ, F, o, e, h, q⟩ => by
  refine TDo.go e h q.hx fun ds ρ1 vs H1 S1 l h1 e1 => ?_
  unfold M.opt at h1
  split at h1
  · next z =>
    split at z
    · next hz =>
      cases z; cases h1
      obtain ⟨S2, u2, e2, oc⟩ := e1.dropd l
      refine ⟨by rw [l]; exact of_decide_eq_true hz, fun p hp => q _ _ _ (En.ofHead e2.len (e2.rt.newL (Same.upd hp) hp upd_same oc))⟩
    · cases z
  · cases h1
end
end Rx

namespace Rx
open PySem PySem.Spec PyProof.Rows L2 RZ PySem.W
open Lc (Tp AS And1 ButS Lv)
/-! ### calls of one's own defs -/
inductive FO where | ok (r : T) (outs : List T) | ex (x : Xc) (outs : List T)
abbrev Fn := List T → Option FO
abbrev Lt := Option Nat × T
/-- the slots that lent an argument get it back -/
def giveBack : List Lt → List T → Env → Env
  | (some i, _) :: l, t :: ts, ρ => giveBack l ts (ρ.set i t)
  | (none, _) :: l, _ :: ts, ρ => giveBack l ts ρ
  | _, _, ρ => ρ
def Lent (σ : L2.St) : List V → List Lt → Prop
  | [], [] => True
  | v :: vs, (some i, _) :: l => σ[i]? = some (some v) ∧ Lent σ vs l
  | _ :: vs, (none, _) :: l => Lent σ vs l
  | _, _ => False
theorem Lent.len {σ : L2.St} : ∀ {vs : List V} {l : List Lt}, Lent σ vs l → vs.length = l.length
  | [], [], _ => rfl
  | v :: vs, (some i, _) :: l, h => congrArg Nat.succ (Lent.len h.2)
  | _ :: vs, (none, _) :: l, h => congrArg Nat.succ (Lent.len (vs := vs) (l := l) h)
  | [], _ :: _, h => h.elim
  | _ :: _, [], h => h.elim
def mCall (g : Fn) (c : M (List Lt)) : M T := c.bind fun l => fun ρ => match g (l.map Prod.snd) with
  | some (.ok r outs) => some (.ok r (giveBack l outs ρ))
  | some (.ex x outs) => some (.ex x (giveBack l outs ρ))
  | none => none
section
variable {G : Gx} {W : WX} {X : Cx} {a b c e : Expr} {es rest : List Expr} {m n : M T} {p q : Opd} {pos : Pos} {σ : L2.St} {H : Hp} {S : AS} {ρ : Env} {F : Rl} {β : Type} {o : O β}
def OutC (G : Gx) (W : WX) (σ : L2.St) (F : Rl) (Q : List V → Hp → Prop) : O (List Lt) → Prop
  | .ok l ρ => ∀ vs H S, Lent σ vs l → En G H S σ ρ (rts vs (l.map Prod.snd) ++ F) → Q vs H
  | .ex x ρ => ExF G W σ F x ρ
theorem OutC.hx {Q : List V → Hp → Prop} {o : O (List Lt)} (h : OutC G W σ F Q o) : ∀ x ρ', o = .ex x ρ' → ExF G W σ F x ρ' := fun x ρ' e => by subst e; exact h
def TCo (G : Gx) (W : WX) (m : M (List Lt)) : TA := fun σ H Q => ∃ S ρ F o, En G H S σ ρ F ∧ m ρ = some o ∧ OutC G W σ F Q o
def PMc (G : Gx) (W : WX) (X : Cx) (es : List Expr) (m : M (List Lt)) : Prop := PA X es (TCo G W m)
theorem TCo.go {m : M (List Lt)} {f : List Lt → M β} {K : List V → Hp → Prop} (e : En G H S σ ρ F) (hm : m.bind f ρ = some o) (hx : ∀ x ρ', o = .ex x ρ' → ExF G W σ F x ρ')
    (k : ∀ l ρ1 vs H1 S1, Lent σ vs l → f l ρ1 = some o → En G H1 S1 σ ρ1 (rts vs (l.map Prod.snd) ++ F) → K vs H1) : TCo G W m σ H K := by
  unfold M.bind at hm
  cases q : m ρ with
  | none => rw [q] at hm; cases hm
  | some r =>
    rw [q] at hm
    refine ⟨S, ρ, F, r, e, q, ?_⟩
    cases r with
    | ok t ρ1 => exact fun vs H1 S1 hl e1 => k t ρ1 vs H1 S1 hl hm e1
    | ex x ρ1 => exact hx x ρ1 (Option.some.inj hm).symm
def cNil : M (List Lt) := M.ret []
def cCons (m : M T) (r : M (List Lt)) : M (List Lt) := m.bind fun t => r.bind fun l => M.ret ((none, t) :: l)
/-- a name is lent, where it holds an object of its own -/
def cVar (i : Nat) (r : M (List Lt)) : M (List Lt) := fun ρ => match ρ[i]? with
  | some (.fz d) => (r.bind fun l => M.ret ((none, .fz d) :: l)) ρ
  | some .no => none
  | some t => (r.bind fun l => M.ret ((some i, t) :: l)) (ρ.set i .no)
  | none => none
theorem pmc_nil : PMc G W X [] cNil := pa_mono pa_nil fun σ H Q ⟨S, ρ, F, o, e, h, q⟩ => by
  cases h
  exact q [] H S trivial e
theorem pmc_cons {r : M (List Lt)} (ha : PM G W X e m) (hr : PMc G W X es r) (hs : starEach (e :: es) X.env = (false, eval e X.env) :: starEach es X.env := by rfl) : PMc G W X (e :: es) (cCons m r) := pa_mono (pa_cons ha hr hs) fun σ H Q ⟨S, ρ, F, o, e, h, q⟩ => by
  refine TEo.go e h q.hx fun t ρ1 v H1 S1 h1 e1 => ?_
  refine TCo.go e1 h1 (fun x ρ' z => (q.hx x ρ' z).mono) fun l ρ2 vs H2 S2 hl h2 e2 => ?_
  cases h2
  exact q (v :: vs) H2 S2 hl (e2.frame List.perm_middle)
theorem pmc_var (i : Nat) {x : Str} {r : M (List Lt)} {xp : Pos} (hr : PMc G W X es r) (hN : X.N[i]? = some x := by rfl) (hv : Vis X.env.scope x := by first | exact Or.inl rfl | exact Or.inr (Or.inl rfl) | exact Or.inr (Or.inr rfl)) (hd : (x == ("__debug__" : Str)) = false := by decide)
    (hcd : (x == ("__classdict__" : Str)) = false := by decide) (hs : starEach (.Name x xp :: es) X.env = (false, eval (.Name x xp) X.env) :: starEach es X.env := by rfl) : PMc G W X (.Name x xp :: es) (cVar i r) := pa_mono (pa_cons (pe_var hN hv hd hcd) hr hs) fun σ H Q ⟨S, ρ, F, o, e, h, q⟩ => by
  unfold cVar at h
  split at h
  · next d hd =>
    obtain ⟨u, hu, oc⟩ := e.var hd
    refine ⟨u, hu, ?_⟩
    refine TCo.go (e.add oc) h (fun x ρ' z => (q.hx x ρ' z).mono) fun l ρ2 vs H2 S2 hl h2 e2 => ?_
    cases h2
    exact q (u :: vs) H2 S2 hl (e2.frame List.perm_middle)
  · cases h
  · next t n1 n2 ht =>
    obtain ⟨v, hv', e'⟩ := e.take ht
    obtain ⟨u, rfl⟩ := e'.someOf (i := i) n2
    refine ⟨u, hv', ?_⟩
    refine TCo.go e' h (fun x ρ' z => (q.hx x ρ' z).mono) fun l ρ2 vs H2 S2 hl h2 e2 => ?_
    cases h2
    exact q (u :: vs) H2 S2 ⟨hv', hl⟩ (e2.frame List.perm_middle)
  · cases h
theorem giveBack_en : ∀ {l : List Lt} {vs : List V} {ts : List T} {S : AS} {ρ : Env}, Lent σ vs l → En G H S σ ρ (rts vs ts ++ F) → ∃ S', Up H S H S' ∧ En G H S' σ (giveBack l ts ρ) F
  | [], [], ts, S, ρ, _, e => ⟨S, Up.refl _ _, by unfold giveBack; exact e⟩
  | (i, t0) :: l, v :: vs, [], S, ρ, h, e => by
    refine ⟨S, Up.refl _ _, ?_⟩
    cases i <;> (unfold giveBack; exact e)
  | (some i, t0) :: l, v :: vs, t :: ts, S, ρ, h, e => by
    obtain ⟨S1, u1, e1⟩ := En.give (v := some v) (t := t) e (by
      have := (List.getElem?_eq_some_iff.mp h.1).1
      rw [← e.len]; exact this) h.1
    obtain ⟨S2, u2, e2⟩ := giveBack_en (vs := vs) (ts := ts) h.2 e1
    exact ⟨S2, u1.trans u2, by unfold giveBack; exact e2⟩
  | (none, t0) :: l, v :: vs, t :: ts, S, ρ, h, e => by
    obtain ⟨S1, u1, e1⟩ := En.drop (v := some v) (t := t) e
    obtain ⟨S2, u2, e2⟩ := giveBack_en (vs := vs) (ts := ts) h e1
    exact ⟨S2, u1.trans u2, by unfold giveBack; exact e2⟩
  | [], _ :: _, _, _, _, h, _ => h.elim
  | _ :: _, [], _, _, _, h, _ => by cases h
def OutF (G : Gx) (vs : List V) (F : Rl) (Q : VK) (E : XK) : FO → Prop
  | .ok r outs => ∀ v H S, Rt G H S ((some v, r) :: (rts vs outs ++ F)) → Q v H
  | .ex x outs => ∀ cls d H S, XcAt G H S cls d x → Rt G H S (rts vs outs ++ F) → E cls d H
/-- a def's promise: what g says of the arguments -/
def spOf (G : Gx) (g : Fn) : Sp := fun vs H Q E => ∃ S ts F fo, vs.length = ts.length ∧ Rt G H S (rts vs ts ++ F) ∧ g ts = some fo ∧ OutF G vs F Q E fo
theorem Lent.ln {vs : List V} {l : List Lt} (h : Lent σ vs l) : vs.length = (l.map Prod.snd).length := by rw [List.length_map]; exact h.len
theorem mCall_run {g : Fn} {cm : M (List Lt)} {Q : VK} (h : TEo G W (mCall g cm) σ H Q) : tCallS (spOf G g) (WE W) (TCo G W cm) σ H Q := by
  obtain ⟨S, ρ, F, o, e, h, q⟩ := h
  refine TCo.go e h q.hx fun l ρ1 vs H1 S1 hl h1 e1 => ?_
  cases hg : g (l.map Prod.snd) with
  | none => rw [hg] at h1; cases h1
  | some fo =>
    rw [hg] at h1
    refine ⟨S1, l.map Prod.snd, σ.zip ρ1 ++ F, fo, hl.ln, e1.rt.perm (List.perm_append_comm_assoc _ _ _), hg, ?_⟩
    cases fo with
    | ok r outs =>
      cases h1
      intro v H2 S2 r2
      have e2 : En G H2 S2 σ ρ1 (rts vs outs ++ ((some v, r) :: F)) := ⟨e1.len, r2.perm ((List.perm_append_comm_assoc _ _ _).symm.cons _ |>.symm |>.symm |>.trans (by
        refine List.Perm.trans ?_ ((List.perm_middle (a := (some v, r)) (l₁ := rts vs outs) (l₂ := F)).symm.append_left (σ.zip ρ1))
        exact (List.perm_middle (a := (some v, r)) (l₁ := σ.zip ρ1) (l₂ := rts vs outs ++ F)).symm))⟩
      obtain ⟨S3, _, e3⟩ := giveBack_en hl e2
      exact q v H2 S3 e3
    | ex x outs =>
      cases h1
      intro cls d H2 S2 ax r2
      have e2 : En G H2 S2 σ ρ1 (rts vs outs ++ F) := ⟨e1.len, r2.perm (List.perm_append_comm_assoc _ _ _)⟩
      obtain ⟨S3, u3, e3⟩ := giveBack_en hl e2
      exact q cls d H2 S3 (ax.up u3) e3
theorem pm_call {k : Nat} {f : Addr} {fd : FuncData} {ps : List Str} {g : Fn} {cm : M (List Lt)} {x : Str} {p : Pos} (tk : Takes X W) (Fk : FnOk X.prog X.w X.K X.mg X.base (L2.CX X.prog X.w) k f fd ps (spOf G g)) (hr : Room k X.A) (hg : Gl X x) (hm : X.mg x = some (.ref f))
    (hk : PySem.W.keepIn X.K (.ref f) = true) (hb : Binds X.K fd ps []) (ha : PMc G W X (e :: es) cm) (hdb : (x == ("__debug__" : Str)) = false := by decide) (he : starEach (e :: es) X.env = (false, eval e X.env) :: starEach es X.env := by rfl)
    (hpl : (backTo pos (starEach es X.env)).any (·.1) = false := by rfl) : PM G W X (.Call (.Name x p) (e :: es) [] pos) (mCall g cm) :=
  pe_mono (pe_callS Fk hr hg hm hk hb (fun σ => passAt tk σ) ha hdb he hpl) fun _ _ _ h => mCall_run h
/-! ### one operand: built-ins, fields -/
/-- a built-in of one operand -/
theorem pm_un1 {id : String} {r : List V → Hp → VK → Prop} {g : D → Option T} {x : Str} {xp : Pos} (hc : CallR X (.builtin id) r) (hr : UnS G (fun v => r [v]) g) (hg : Gl X x) (hm : X.mg x = none) (hv : bootBuiltins x = some (.builtin id)) (ha : PMo G W X e p)
    (hn : x ≠ "__name__" := by decide) (hdb : (x == ("__debug__" : Str)) = false := by decide) (he : starEach [e] X.env = (false, eval e X.env) :: starEach [] X.env := by rfl) : PM G W X (.Call (.Name x xp) [e] [] pos) (mUn g p) :=
  pe_mono (pe_callB hc hg hm hv (pa_cons ha pa_nil he) hn hdb he rfl) fun σ H Q h => mUn_run hr h
theorem pm_ty1 {id : String} {r : List V → Hp → VK → Prop} {g : D → Option T} {x : Str} {xp : Pos} (hc : CallR X (.type id) r) (hr : UnS G (fun v => r [v]) g) (hg : Gl X x) (hm : X.mg x = none) (hv : bootBuiltins x = some (.type id)) (ha : PMo G W X e p)
    (hn : x ≠ "__name__" := by decide) (hdb : (x == ("__debug__" : Str)) = false := by decide) (he : starEach [e] X.env = (false, eval e X.env) :: starEach [] X.env := by rfl) : PM G W X (.Call (.Name x xp) [e] [] pos) (mUn g p) :=
  pe_mono (pe_callTy hc hg hm hv (pa_cons ha pa_nil he) hn hdb he rfl) fun σ H Q h => mUn_run hr h
/-- a built-in of two operands -/
theorem pm_bi2 {id : String} {r : List V → Hp → VK → Prop} {g : D → D → Option T} {x : Str} {xp : Pos} (hc : CallR X (.builtin id) r) (hr : OpS G (fun v w => r [v, w]) g) (hg : Gl X x) (hm : X.mg x = none) (hv : bootBuiltins x = some (.builtin id)) (ha : PMo G W X a p) (hb : PMo G W X b q)
    (hn : x ≠ "__name__" := by decide) (hdb : (x == ("__debug__" : Str)) = false := by decide) (he : starEach [a, b] X.env = (false, eval a X.env) :: starEach [b] X.env := by rfl) (he2 : starEach [b] X.env = (false, eval b X.env) :: starEach [] X.env := by rfl)
    (hpl : (backTo pos (starEach [b] X.env)).any (·.1) = false := by rfl) : PM G W X (.Call (.Name x xp) [a, b] [] pos) (mBin g p q) :=
  pe_mono (pe_callB hc hg hm hv (pa_cons ha (pa_cons hb pa_nil he2) he) hn hdb he hpl) fun σ H Q h => mBin_run hr h
/-- o.f, o a datum -/
def gFld (cs : List Nat) (f : Str) (d : D) : Option T := match d with
  | .ins c ns xs => if c ∈ cs then ((ns.zip xs).lookup f).map .fz else none
  | _ => none
theorem zip_lookup {f : Str} {d : D} : ∀ {ns : List Str} {vs : List V} {ds : List D}, Ocs G H S vs ds → (ns.zip ds).lookup f = some d → ∃ v, (ns.zip vs).lookup f = some v ∧ Oc G H S v d
  | [], _, _, _, e => by simp at e
  | _ :: _, _, _, .nil, e => by simp at e
  | n :: ns, _, _, .cons h t, e => by
    rw [List.zip_cons_cons, List.lookup_cons] at e
    rw [List.zip_cons_cons, List.lookup_cons]
    split at e
    · next z => cases e; exact ⟨_, rfl, h⟩
    · next z => exact zip_lookup t e
/-- what is known of a class's field -/
def FldOk (G : Gx) (cs : List Nat) (f : Str) : Prop := ∀ c ∈ cs, Cls G.K (G.cl c) ∧ NoAttr G.K (G.cl c) f
theorem pm_fld {cs : List Nat} {f : Str} (hK : X.K = G.K) (ha : PMo G W X e p) (c : FldOk G cs f) (hb : attributeBase e f X.env (eval e X.env) = eval e X.env := by rfl) : PM G W X (.Attribute e f pos) (mUn (gFld cs f) p) := pe_mono (pe_fld ha hb) fun σ H Q h => by
  rw [hK]
  refine mUn_run (g := gFld cs f) (r := fun x H1 Q => ∃ a C dx fs v, x = .ref a ∧ H1 a = some (.ins C dx fs) ∧ Cls G.K C ∧ NoAttr G.K C f ∧ fs.lookup f = some v ∧ Q v H1) (fun H S L x d t Q rt w z q => ?_) h
  unfold gFld at z
  split at z
  · next cc ns xs =>
    split at z
    case isFalse => cases z
    next hcc =>
    cases z2 : (ns.zip xs).lookup f with
    | none => rw [z2] at z; cases z
    | some d' =>
      rw [z2] at z; cases z
      obtain ⟨a, dx, vs, rfl, e, l, all⟩ := w.ins_inv
      obtain ⟨v, hv, ov⟩ := zip_lookup all z2
      exact ⟨a, _, _, _, v, rfl, e, (c cc hcc).1, (c cc hcc).2, hv, q v _ _ (rt.add ov)⟩
  · cases z
end
end Rx

namespace Rx
open PySem PySem.Spec PyProof.Rows L2 RZ PySem.W
open Lc (Tp AS And1 ButS Lv minL maxL)
section
variable {G : Gx} {W : WX} {X : Cx} {a b c e : Expr} {es rest : List Expr} {m n : M T} {p q : Opd} {pos : Pos} {σ : L2.St} {H : Hp} {S : AS} {ρ : Env} {F : Rl} {β : Type} {o : O β}
/-! ### x[i] -/
def gIx (d e : D) : Option T := match d, e with
  | .lst xs, .int i => (atI xs i).map .fz
  | .tup xs, .int i => (atI xs i).map .fz
  | .scr ns, .int i => (atI ns i).map fun n => .fz (.int n)
  | _, _ => none
theorem IxR.or {r s : R2} (h : IxR X r) (h' : IxR X s) : IxR X (rOr r s) := fun value slice pins s σ H x y v u Q I rx ry hh hs => hh.elim (fun z => h value slice pins s σ H x y v u Q I rx ry z hs) (fun z => h' value slice pins s σ H x y v u Q I rx ry z hs)
def rIx (K : PySem.W.Frag) : R2 := rOr (rIxL K) (rIxT K)
theorem atI_oc {vs : List V} {ds : List D} {i : Int} {d : D} (oc : Ocs G H S vs ds) (h : atI ds i = some d) : ∃ v, atI vs i = some v ∧ Oc G H S v d := by
  unfold atI at h ⊢
  rw [oc.len]
  cases z : ixN ds.length i with
  | none => rw [z] at h; cases h
  | some j =>
    rw [z] at h
    exact oc.get h
theorem ops_ix : OpS G (rIx G.K) gIx := fun H S L x y d e t Q rt o1 o2 z q => by
  unfold gIx at z
  split at z
  · next xs i =>
    cases h : atI xs i with
    | none => rw [h] at z; cases z
    | some d' =>
      rw [h] at z; cases z
      obtain ⟨a, vs, rfl, e1, all⟩ := o1.lst_inv
      obtain ⟨v, hv, ov⟩ := atI_oc all h
      exact .inl ⟨a, vs, i, v, rfl, o2.int_inv, .inl (.inl e1), hv, q _ H S (rt.add ov)⟩
  · next xs i =>
    cases h : atI xs i with
    | none => rw [h] at z; cases z
    | some d' =>
      rw [h] at z; cases z
      obtain ⟨a, vs, rfl, e1, all⟩ := o1.tup.tup_inv
      obtain ⟨v, hv, ov⟩ := atI_oc all h
      exact .inr ⟨a, vs, i, v, rfl, o2.int_inv, e1, hv, q _ H S (rt.add ov)⟩
  · next ns i =>
    cases h : atI ns i with
    | none => rw [h] at z; cases z
    | some n =>
      rw [h] at z; cases z
      cases o1 with
      | oc o1 =>
        obtain ⟨_, rfl, e1⟩ := o1.scr_inv
        · refine .inl ⟨_, _, i, .int n, rfl, o2.int_inv, e1, ?_, q _ H S (rt.add (.int n))⟩
          unfold atI at h ⊢
          rw [List.length_map]
          cases z : ixN ns.length i with
          | none => rw [z] at h; cases h
          | some j =>
            rw [z] at h
            show (ns.map V.int)[j]? = _
            have h : ns[j]? = some n := h
            rw [List.getElem?_map, h]; rfl
  · cases z
theorem pm_ix (hK : X.K = G.K) (ha : PMo G W X a p) (hb : PMo G W X b q) (hs : PlainIx b := by exact fun _ _ => rfl) : PM G W X (.Subscript a b pos) (mBin gIx p q) :=
  pe_mono (pe_ix (IxR.or (by rw [← hK]; exact ix_list) (by rw [← hK]; exact ix_tup) : IxR X (rIx G.K)) ha hb hs) fun _ _ _ h => mBin_run ops_ix h
/-! ### slices -/
def cutA {α : Type} (xs : List α) (lo hi : Option Int) : List α := (xs.drop (HT.sIx xs.length 0 lo)).take (HT.sIx xs.length xs.length hi - HT.sIx xs.length 0 lo)
theorem cutA_V (xs : List V) (lo hi : Option Int) : cutV xs lo hi = cutA xs lo hi := rfl
theorem cut_oc {vs : List V} {ds : List D} (oc : Ocs G H S vs ds) (lo hi : Option Int) : Ocs G H S (cutV vs lo hi) (cutA ds lo hi) := by
  unfold cutV cutA
  rw [oc.len]
  exact (oc.drop _).take _
def OutP (G : Gx) (W : WX) (σ : L2.St) (F : Rl) (Q : Option Int → Hp → Prop) : O (Option Int) → Prop
  | .ok i ρ => ∀ H S, En G H S σ ρ F → Q i H
  | .ex x ρ => ExF G W σ F x ρ
theorem OutP.hx {Q : Option Int → Hp → Prop} {o : O (Option Int)} (h : OutP G W σ F Q o) : ∀ x ρ', o = .ex x ρ' → ExF G W σ F x ρ' := fun x ρ' e => by subst e; exact h
def TPo (G : Gx) (W : WX) (m : M (Option Int)) : TO := fun σ H Q => ∃ S ρ F o, En G H S σ ρ F ∧ m ρ = some o ∧ OutP G W σ F Q o
def PMp (G : Gx) (W : WX) (X : Cx) (e : Option Expr) (m : M (Option Int)) : Prop := PO X e (TPo G W m)
theorem po_mono {e : Option Expr} {t t' : TO} (h : PO X e t) (k : ∀ σ H Q, t' σ H Q → t σ H Q) : PO X e t' := ⟨fun pins s σ H Q I q => h.run pins s σ H Q I (k σ H Q q)⟩
theorem TPo.go {m : M (Option Int)} {f : Option Int → M β} {K : Option Int → Hp → Prop} (e : En G H S σ ρ F) (hm : m.bind f ρ = some o) (hx : ∀ x ρ', o = .ex x ρ' → ExF G W σ F x ρ')
    (k : ∀ i ρ1 H1 S1, f i ρ1 = some o → En G H1 S1 σ ρ1 F → K i H1) : TPo G W m σ H K := by
  unfold M.bind at hm
  cases q : m ρ with
  | none => rw [q] at hm; cases hm
  | some r =>
    rw [q] at hm
    refine ⟨S, ρ, F, r, e, q, ?_⟩
    cases r with
    | ok t ρ1 => exact fun H1 S1 e1 => k t ρ1 H1 S1 hm e1
    | ex x ρ1 => exact hx x ρ1 (Option.some.inj hm).symm
def D.asI : D → Option (Option Int)
  | .int i => some (some i)
  | _ => none
def noP : M (Option Int) := M.ret none
def atP (m : M T) : M (Option Int) := (mD m).bind fun d => M.opt d.asI
theorem pmp_no : PMp G W X none noP := po_mono po_none fun σ H Q ⟨S, ρ, F, o, e, h, q⟩ => by
  cases h
  exact q H S e
theorem pmp_at (h : PM G W X e m) : PMp G W X (some e) (atP m) := po_mono (po_some h) fun σ H Q ⟨S, ρ, F, o, e, h, q⟩ => by
  refine TEo.goD e h q.hx fun d ρ1 v H1 S1 h1 e1 => ?_
  unfold M.opt at h1
  cases d with
  | int i =>
    cases h1
    obtain ⟨S2, _, e2⟩ := e1.drop
    exact ⟨i, e1.fz.int_inv, q H1 S2 e2⟩
  | _ => cases h1
def gSl (d : D) (lo hi : Option Int) : Option T := match d with
  | .lst xs => some (.ol (cutA xs lo hi))
  | .tup xs => some (.fz (.tup (cutA xs lo hi)))
  | .scr ns => some (.ol ((cutA ns lo hi).map .int))
  | _ => none
def mSl (p : Opd) (lo hi : M (Option Int)) : M T := p.ev.bind fun x => lo.bind fun l => hi.bind fun u => fun ρ => match p.get x ρ with
  | some d => M.opt (gSl d l u) ρ
  | none => none
theorem cut_ints (ns : List Int) (lo hi : Option Int) : cutV (ns.map V.int) lo hi = (cutA ns lo hi).map V.int := by
  unfold cutV cutA
  rw [List.length_map, ← List.map_drop, ← List.map_take]
theorem ocs_ints : ∀ ns : List Int, Ocs G H S (ns.map V.int) (ns.map D.int)
  | [] => .nil
  | n :: r => .cons (.int n) (ocs_ints r)
def rSl (K : PySem.W.Frag) : V → Option Int → Option Int → Hp → VK → Prop := fun x lo hi H Q => rSlL K x lo hi H Q ∨ Lc.rSlF K x lo hi H Q
theorem pm_sl {lo hi : Option Expr} {ml mh : M (Option Int)} {p2 : Pos} (hK : X.K = G.K) (ha : PMo G W X a p) (hl : PMp G W X lo ml) (hh : PMp G W X hi mh) : PM G W X (.Subscript a (.Slice lo hi none p2) pos) (mSl p ml mh) :=
  pe_mono (pe_slice (SlR.or (by rw [← hK]; exact sl_list) (by rw [← hK]; exact Lc.sl_tupF) : SlR X (rSl G.K)) ha hl hh) fun σ H Q ⟨S, ρ, F, o, e, h, q⟩ => by
  refine Opd.go e h q.hx fun x ρ1 v H1 S1 h1 e1 a1 => ?_
  refine TPo.go e1 h1 (fun x ρ' z => (q.hx x ρ' z).monos _) fun l ρ2 H2 S2 h2 e2 => ?_
  refine TPo.go e2 h2 (fun x ρ' z => (q.hx x ρ' z).monos _) fun u ρ3 H3 S3 h3 e3 => ?_
  cases z1 : p.get x ρ3 with
  | none => rw [z1] at h3; cases h3
  | some d1 =>
    rw [z1] at h3
    have w1 := Opd.see a1 e3 (fun r hr => List.mem_append_left _ hr) z1
    obtain ⟨S4, u4, e4⟩ := En.drops (L := p.fr v x) (F' := F) e3 rfl
    have w1 := w1.up u4 rfl
    unfold M.opt at h3
    cases d1 with
    | lst xs =>
      cases h3
      obtain ⟨a, vs, rfl, ea, all⟩ := w1.lst_inv
      exact .inl ⟨a, vs, rfl, .inl (.inl ea), fun p hp => q _ _ _ (En.ofHead e4.len (e4.rt.newL (Same.upd hp) hp upd_same (cut_oc all _ _)))⟩
    | tup xs =>
      cases h3
      have wt := w1.tup
      obtain ⟨a, vs, ev, sq, all⟩ := wt.tup_inv
      subst ev
      refine .inr ⟨a, vs, rfl, sq, fun z => ?_, fun _ p H2 hp k tp => q _ H2 S4 (En.ofHead e4.len (e4.rt.newT k hp tp (cut_oc all _ _)))⟩
      have hc : cutA xs l u = xs := by
        have hl := all.len
        unfold cutA
        rw [← hl, z.1, z.2, List.drop_zero, Nat.sub_zero, hl, List.take_length]
      rw [hc] at q
      exact q _ H3 S4 (En.ofHead e4.len (e4.rt.add wt))
    | scr ns =>
      cases h3
      cases w1 with
      | oc w1 =>
        obtain ⟨_, rfl, eS⟩ := w1.scr_inv
        · refine .inl ⟨_, _, rfl, eS, fun p hp => ?_⟩
          rw [cut_ints]
          exact q _ _ _ (En.ofHead e4.len (e4.rt.newL (Same.upd hp) hp upd_same (ocs_ints _)))
    | _ => cases h3
/-! ### built-ins of one operand -/
def gLen (d : D) : Option T := match d with
  | .lst xs => some (.fz (.int xs.length))
  | .tup xs => some (.fz (.int xs.length))
  | .scr ns => some (.fz (.int ns.length))
  | _ => none
theorem uns_len : UnS G (fun v => (fun xs H (Q : VK) => ∃ p ys, xs = [.ref p] ∧ (SqL G.K H p ys ∨ SqT G.K H p ys) ∧ Q (.int ys.length) H) [v]) gLen := fun H S L x d t Q rt w z q => by
  cases d with
  | lst xs =>
    cases z
    obtain ⟨a, vs, rfl, ea, all⟩ := w.lst_inv
    exact ⟨a, vs, rfl, .inl (.inl (.inl ea)), by rw [all.len]; exact q _ H S (rt.add (.int _))⟩
  | tup xs =>
    cases z
    obtain ⟨a, vs, rfl, ea, all⟩ := w.tup.tup_inv
    exact ⟨a, vs, rfl, .inr ea, by rw [all.len]; exact q _ H S (rt.add (.int _))⟩
  | scr ns =>
    cases z
    cases w with
    | oc w =>
      obtain ⟨_, rfl, e1⟩ := w.scr_inv
      exact ⟨_, _, rfl, .inl (e1), by rw [List.length_map]; exact q _ H S (rt.add (.int _))⟩
  | _ => cases z
theorem call_len (hK : X.K = G.K) : CallR X (.builtin "len") (fun xs H Q => ∃ p ys, xs = [.ref p] ∧ (SqL G.K H p ys ∨ SqT G.K H p ys) ∧ Q (.int ys.length) H) := by rw [← hK]; exact call_len_seq
/-- list(..) -/
def gList (d : D) : Option T := match d with
  | .lst xs => some (.ol xs)
  | .tup xs => some (.ol xs)
  | .scr ns => some (.ol (ns.map .int))
  | _ => none
theorem uns_list : UnS G (fun v => (fun xs H (Q : VK) => ∃ p ys, xs = [.ref p] ∧ (SqL G.K H p ys ∨ SqT G.K H p ys) ∧ ∀ l, H l = none → Q (.ref l) (upd H l (.lst ys))) [v]) gList := fun H S L x d t Q rt w z q => by
  cases d with
  | lst xs =>
    cases z
    obtain ⟨a, vs, rfl, ea, all⟩ := w.lst_inv
    exact ⟨a, vs, rfl, .inl (.inl (.inl ea)), fun p hp => q _ _ _ (rt.newL (Same.upd hp) hp upd_same all)⟩
  | tup xs =>
    cases z
    obtain ⟨a, vs, rfl, ea, all⟩ := w.tup.tup_inv
    exact ⟨a, vs, rfl, .inr ea, fun p hp => q _ _ _ (rt.newL (Same.upd hp) hp upd_same all)⟩
  | scr ns =>
    cases z
    cases w with
    | oc w =>
      obtain ⟨_, rfl, e1⟩ := w.scr_inv
      exact ⟨_, _, rfl, .inl (e1), fun p hp => q _ _ _ (rt.newL (Same.upd hp) hp upd_same (ocs_ints _))⟩
  | _ => cases z
theorem call_list (hK : X.K = G.K) : CallR X (.type "list") (fun xs H Q => ∃ p ys, xs = [.ref p] ∧ (SqL G.K H p ys ∨ SqT G.K H p ys) ∧ ∀ l, H l = none → Q (.ref l) (upd H l (.lst ys))) := by rw [← hK]; exact call_list_of
/-- int(..) -/
def gInt (d : D) : Option T := match d with
  | .int i => some (.fz (.int i))
  | .bl b => some (.fz (.int (if b then 1 else 0)))
  | _ => none
theorem uns_int : UnS G (fun v => (fun xs H (Q : VK) => (∃ i, xs = [.int i] ∧ Q (.int i) H) ∨ ∃ k, xs = [.bl k] ∧ Q (.int (if k then 1 else 0)) H) [v]) gInt := fun H S L x d t Q rt w z q => by
  cases d with
  | int i => cases z; rw [w.int_inv]; exact .inl ⟨i, rfl, q _ H S (rt.add (.int _))⟩
  | bl i => cases z; rw [w.bl_inv]; exact .inr ⟨i, rfl, q _ H S (rt.add (.int _))⟩
  | _ => cases z
def gAbs (d : D) : Option T := match d with
  | .int i => some (.fz (.int (if i < 0 then -i else i)))
  | _ => none
theorem uns_abs : UnS G (fun v => (fun xs H (Q : VK) => ∃ i, xs = [.int i] ∧ Q (.int (if i < 0 then -i else i)) H) [v]) gAbs := fun H S L x d t Q rt w z q => by
  cases d with
  | int i => cases z; rw [w.int_inv]; exact ⟨i, rfl, q _ H S (rt.add (.int _))⟩
  | _ => cases z
/-- all(..), any(..) of a list of bools -/
def D.asB : D → Option Bool
  | .bl b => some b
  | _ => none
def asBs : List D → Option (List Bool)
  | [] => some []
  | .bl b :: r => (asBs r).map (b :: ·)
  | _ :: _ => none
theorem asBs_oc : ∀ {ds : List D} {vs : List V} {bs : List Bool}, Ocs G H S vs ds → asBs ds = some bs → vs = bs.map V.bl
  | [], [], bs, _, e => by cases e; rfl
  | [], _ :: _, _, h, _ => by cases h
  | .bl b :: r, vs, bs, h, e => by
    unfold asBs at e
    cases z : asBs r with
    | none => rw [z] at e; cases e
    | some bs' =>
      rw [z] at e; cases e
      cases h with
      | cons h t => rw [h.bl_inv, asBs_oc t z]; rfl
  | .non :: _, _, _, _, e => by cases e
  | .int _ :: _, _, _, _, e => by cases e
  | .str _ :: _, _, _, _, e => by cases e
  | .tup _ :: _, _, _, _, e => by cases e
  | .lst _ :: _, _, _, _, e => by cases e
  | .dic _ _ :: _, _, _, _, e => by cases e
  | .ins _ _ _ :: _, _, _, _, e => by cases e
  | .fn _ :: _, _, _, _, e => by cases e
  | .scr _ :: _, _, _, _, e => by cases e
  | .ad _ :: _, _, _, _, e => by cases e
def gAll (d : D) : Option T := match d with
  | .lst xs => (asBs xs).map fun bs => .fz (.bl (bs.all id))
  | _ => none
def gAny (d : D) : Option T := match d with
  | .lst xs => (asBs xs).map fun bs => .fz (.bl (bs.any id))
  | _ => none
theorem uns_all : UnS G (fun v => rAll G.K [v]) gAll := fun H S L x d t Q rt w z q => by
  cases d with
  | lst xs =>
    cases h : asBs xs with
    | none => unfold gAll at z; dsimp only at z; rw [h] at z; cases z
    | some bs =>
      unfold gAll at z; dsimp only at z; rw [h] at z; cases z
      obtain ⟨a, vs, rfl, ea, all⟩ := w.lst_inv
      rw [asBs_oc all h] at ea
      exact ⟨a, bs, rfl, .inl (.inl ea), q _ H S (rt.add (.bl _))⟩
  | _ => cases z
theorem uns_any : UnS G (fun v => rAny G.K [v]) gAny := fun H S L x d t Q rt w z q => by
  cases d with
  | lst xs =>
    cases h : asBs xs with
    | none => unfold gAny at z; dsimp only at z; rw [h] at z; cases z
    | some bs =>
      unfold gAny at z; dsimp only at z; rw [h] at z; cases z
      obtain ⟨a, vs, rfl, ea, all⟩ := w.lst_inv
      rw [asBs_oc all h] at ea
      exact ⟨a, bs, rfl, .inl (.inl ea), q _ H S (rt.add (.bl _))⟩
  | _ => cases z
/-! ### ints -/
def asIs : List D → Option (List Int)
  | [] => some []
  | .int b :: r => (asIs r).map (b :: ·)
  | _ :: _ => none
theorem asIs_oc : ∀ {ds : List D} {vs : List V} {bs : List Int}, Ocs G H S vs ds → asIs ds = some bs → vs = bs.map V.int
  | [], [], bs, _, e => by cases e; rfl
  | [], _ :: _, _, h, _ => by cases h
  | .int b :: r, vs, bs, h, e => by
    unfold asIs at e
    cases z : asIs r with
    | none => rw [z] at e; cases e
    | some bs' =>
      rw [z] at e; cases e
      cases h with
      | cons h t => rw [h.int_inv, asIs_oc t z]; rfl
  | .non :: _, _, _, _, e => by cases e
  | .bl _ :: _, _, _, _, e => by cases e
  | .str _ :: _, _, _, _, e => by cases e
  | .tup _ :: _, _, _, _, e => by cases e
  | .lst _ :: _, _, _, _, e => by cases e
  | .dic _ _ :: _, _, _, _, e => by cases e
  | .ins _ _ _ :: _, _, _, _, e => by cases e
  | .fn _ :: _, _, _, _, e => by cases e
  | .scr _ :: _, _, _, _, e => by cases e
  | .ad _ :: _, _, _, _, e => by cases e
theorem asIs_map (ns : List Int) : asIs (ns.map D.int) = some ns := by
  induction ns with
  | nil => rfl
  | cons n r ih => rw [List.map_cons, asIs, ih]; rfl
theorem asBs_map (ns : List Bool) : asBs (ns.map D.bl) = some ns := by
  induction ns with
  | nil => rfl
  | cons n r ih => rw [List.map_cons, asBs, ih]; rfl
def gSum (d : D) : Option T := match d with
  | .lst xs => (asIs xs).map fun bs => .fz (.int bs.sum)
  | _ => none
theorem uns_sum : UnS G (fun v => rSum G.K [v]) gSum := fun H S L x d t Q rt w z q => by
  cases d with
  | lst xs =>
    cases h : asIs xs with
    | none => unfold gSum at z; dsimp only at z; rw [h] at z; cases z
    | some bs =>
      unfold gSum at z; dsimp only at z; rw [h] at z; cases z
      obtain ⟨a, vs, rfl, ea, all⟩ := w.lst_inv
      rw [asIs_oc all h] at ea
      exact ⟨a, bs, rfl, .inl (.inl ea), q _ H S (rt.add (.int _))⟩
  | _ => cases z
end
end Rx

namespace Rx
open PySem PySem.Spec PyProof.Rows L2 RZ PySem.W
open Lc (Tp AS And1 ButS Lv minL maxL)
section
variable {G : Gx} {W : WX} {X : Cx} {a b c e : Expr} {es rest : List Expr} {m n : M T} {p q : Opd} {pos : Pos} {σ : L2.St} {H : Hp} {S : AS} {ρ : Env} {F : Rl} {β : Type} {o : O β}
/-! ### isinstance -/
inductive Ty where | int | bool | str | tup | lst | dic
def Ty.nm : Ty → String
  | .int => "int" | .bool => "bool" | .str => "str" | .tup => "tuple" | .lst => "list" | .dic => "dict"
def Ty.of : Ty → D → Option Bool
  | .int, .int _ => some true
  | .int, .bl _ => some true
  | .bool, .bl _ => some true
  | .str, .str _ => some true
  | .tup, .tup _ => some true
  | .lst, .lst _ => some true
  | .dic, .dic _ _ => some true
  | _, .ins _ _ _ => none
  | _, .fn _ => none
  | _, .scr _ => none
  | _, .ad _ => none
  | _, _ => some false
def D.tyN : D → String
  | .non => "NoneType" | .bl _ => "bool" | .int _ => "int" | .str _ => "str" | .tup _ => "tuple" | .lst _ => "list" | .dic _ _ => "dict" | .scr _ => "list" | .ins _ _ _ => "" | .fn _ => "" | .ad _ => ""
theorem Vw.ty {v : V} {d : D} {t : Ty} {b : Bool} (h : Vw G H S v d) (e : t.of d = some b) : TyX G.K H v (.type d.tyN) := by
  cases d with
  | non => cases h with | oc h => cases h; exact .base .non
  | bl x => rw [h.bl_inv]; exact .base (.bl x)
  | int x => rw [h.int_inv]; exact .base (.int x)
  | str x => rw [h.str_inv]; exact .base (.str x)
  | lst xs => obtain ⟨a, vs, rfl, ea, _⟩ := h.lst_inv; exact .base (.lst ea)
  | dic ks xs => obtain ⟨a, vs, rfl, ea, _⟩ := h.dic_inv; exact .base (.dK ea)
  | scr ns => cases t <;> cases e
  | tup xs =>
    cases h with
    | oc h =>
      cases h with
      | tup e1 _ _ => cases e1 with | bare _ _ e1 => exact .fTuple e1
      | tupK e1 _ => obtain ⟨o, _, _, h1, h2, _⟩ := e1; exact .kTuple h1 h2
  | ins _ _ _ => cases t <;> cases e
  | fn _ => cases t <;> cases e
  | ad _ => cases t <;> cases e
theorem Ty.kit {K : PySem.W.Frag} {t : Ty} {d : D} {b : Bool} (e : t.of d = some b) : PySem.W.kitOne K (.type d.tyN) (.type t.nm) = some b := by
  cases t <;> cases d <;> first | (cases e; done) | (cases e; exact kit_ty (by dsimp only [D.tyN, Ty.nm]; decide +kernel))
def gIsi (t : Ty) (d : D) : Option T := (t.of d).map fun b => .fz (.bl b)
theorem call_isi' (hK : X.K = G.K) : CallR X (.builtin "isinstance") (rIsi G.K) := by rw [← hK]; exact call_isi
theorem pm_isi (t : Ty) {x y : Str} {xp yp : Pos} (hK : X.K = G.K) (hg : Gl X x) (hm : X.mg x = none) (hv : bootBuiltins x = some (.builtin "isinstance")) (hgy : Gl X y) (hmy : X.mg y = none) (hvy : bootBuiltins y = some (.type t.nm)) (ha : PMo G W X e p)
    (hn : x ≠ "__name__" := by decide) (hdb : (x == ("__debug__" : Str)) = false := by decide) (hny : y ≠ "__name__" := by decide) (hdy : (y == ("__debug__" : Str)) = false := by decide)
    (he : starEach [e, .Name y yp] X.env = (false, eval e X.env) :: starEach [.Name y yp] X.env := by rfl) (hpl : (backTo pos (starEach [.Name y yp] X.env)).any (·.1) = false := by rfl) : PM G W X (.Call (.Name x xp) [e, .Name y yp] [] pos) (mUn (gIsi t) p) :=
  pe_mono (pe_callB (call_isi' hK) hg hm hv (pa_cons ha (pa_cons (pe_bltn (v := .ty t.nm) hgy hmy hvy rfl hny hdy) pa_nil rfl) he) hn hdb he hpl) fun σ H Q h => by
  refine mUn_run (g := gIsi t) (r := fun x H1 Q => rIsi G.K [x, .ty t.nm] H1 Q) (fun H S L x d u Q rt w z q => ?_) h
  unfold gIsi at z
  cases hb : t.of d with
  | none => rw [hb] at z; cases z
  | some b =>
    rw [hb] at z; cases z
    exact ⟨x, .ty t.nm, .type d.tyN, .type t.nm, b, rfl, .ty _, w.ty hb, Ty.kit hb, q _ H S (rt.add (.bl b))⟩
/-- isinstance(x, (int, str)) -/
def gIsiIS (d : D) : Option T := (Ty.of .int d).bind fun a => (Ty.of .str d).map fun b => .fz (.bl (a || b))
theorem call_isiT' (hK : X.K = G.K) : CallR X (.builtin "isinstance") (rIsiT G.K) := by rw [← hK]; exact call_isiT
theorem pm_isiIS {x : Str} {xp ip sp tp : Pos} {kt : Nat} (hK : X.K = G.K) (hg : Gl X x) (hm : X.mg x = none) (hv : bootBuiltins x = some (.builtin "isinstance")) (hgi : Gl X "int") (hmi : X.mg "int" = none) (hgs : Gl X "str") (hms : X.mg "str" = none) (ha : PMo G W X e p)
    (hn : x ≠ "__name__" := by decide) (hdb : (x == ("__debug__" : Str)) = false := by decide)
    (he : starEach [e, .Tuple [.Name "int" ip, .Name "str" sp] kt tp] X.env = (false, eval e X.env) :: starEach [.Tuple [.Name "int" ip, .Name "str" sp] kt tp] X.env := by rfl) (hpl : (backTo pos (starEach [.Tuple [.Name "int" ip, .Name "str" sp] kt tp] X.env)).any (·.1) = false := by rfl) : PM G W X (.Call (.Name x xp) [e, .Tuple [.Name "int" ip, .Name "str" sp] kt tp] [] pos) (mUn gIsiIS p) :=
  pe_mono (pe_callB (call_isiT' hK) hg hm hv (pa_cons ha (pa_cons (pe_tup (pa_cons (pe_bltn (v := .ty "int") hgi hmi (by decide +kernel) rfl) (pa_cons (pe_bltn (v := .ty "str") hgs hms (by decide +kernel) rfl) pa_nil rfl) rfl)) pa_nil rfl) he) hn hdb he hpl) fun σ H Q h => by
  refine mUn_run (g := gIsiIS) (r := fun x H1 Q => ∀ H2 t, Same H1 H2 → H2 t = some (.tup [.ty "int", .ty "str"]) → ∀ k, (∀ H3, Same H1 H3 → Q k H3) → True) (fun H S L x d u Q rt w z q => fun _ _ _ _ _ _ => trivial) h |> fun _ => ?_
  obtain ⟨S, ρ, F, o, e, h, q⟩ := h
  refine Opd.go e h q.hx fun x ρ1 v H1 S1 h1 e1 a1 => ?_
  cases z1 : p.get x ρ1 with
  | none => rw [z1] at h1; cases h1
  | some d1 =>
    rw [z1] at h1
    unfold M.opt at h1
    dsimp only at h1
    cases z : gIsiIS d1 with
    | none => rw [z] at h1; cases h1
    | some t =>
      rw [z] at h1; cases h1
      have w1 := Opd.see a1 e1 (fun r hr => List.mem_append_left _ hr) z1
      obtain ⟨S3, u3, e3⟩ := En.drops (L := p.fr v x) (F' := F) e1 rfl
      have w1 := w1.up u3 rfl
      unfold gIsiIS at z
      cases h1 : Ty.of .int d1 with
      | none => rw [h1] at z; cases z
      | some b1 =>
        rw [h1] at z
        dsimp only [Option.bind] at z
        cases h2 : Ty.of .str d1 with
        | none => rw [h2] at z; cases z
        | some b2 =>
          rw [h2] at z; cases z
          refine ⟨by show 2 ≤ sizeLine; decide, fun tp htp => ?_⟩
          have k : Same H1 (upd H1 tp (.tup [.ty "int", .ty "str"])) := Same.upd htp
          have w2 : Vw G (upd H1 tp (.tup [.ty "int", .ty "str"])) S3 v d1 := by
            cases w1 with
            | oc o => exact .oc (o.up (Up.same k))
            | lst e all => exact .lst (k _ _ e) (all.up (Up.same k))
            | dic e l all => exact .dic (k _ _ e) l (all.up (Up.same k))
            | ins e l all => exact .ins (k _ _ e) l (all.up (Up.same k))
          refine ⟨v, tp, _, .type d1.tyN, [.type "int", .type "str"], b1 || b2, rfl, upd_same, .cons (.ty _) (.cons (.ty _) .nil), w2.ty h1, ?_, q _ _ S3 (En.add (e3.same k) (.bl _))⟩
          refine kitAny_cons (Ty.kit h1) (fun hb => kitAny_cons (Ty.kit h2) (fun hb2 => ?_) (fun hb2 => ?_)) (fun hb => ?_)
          · rw [hb, hb2]; rfl
          · rw [hb2, Bool.or_true]
          · rw [hb]; rfl
/-! ### min, max of two -/
def gMax2 (d e : D) : Option T := gI (fun _ _ => true) (fun i j => .int (if j > i then j else i)) d e
def gMin2 (d e : D) : Option T := gI (fun _ _ => true) (fun i j => .int (if j < i then j else i)) d e
theorem ops_max2 : OpS G (fun v w => (fun xs H (Q : VK) => ∃ i j, xs = [.int i, .int j] ∧ Q (.int (if j > i then j else i)) H) [v, w]) gMax2 := fun H S L x y d e t Q rt o1 o2 z q => by
  unfold gMax2 gI at z
  split at z
  · cases z; rw [o1.int_inv, o2.int_inv]; exact ⟨_, _, rfl, q _ H S (rt.add (.int _))⟩
  · cases z
theorem ops_min2 : OpS G (fun v w => (fun xs H (Q : VK) => ∃ i j, xs = [.int i, .int j] ∧ Q (.int (if j < i then j else i)) H) [v, w]) gMin2 := fun H S L x y d e t Q rt o1 o2 z q => by
  unfold gMin2 gI at z
  split at z
  · cases z; rw [o1.int_inv, o2.int_inv]; exact ⟨_, _, rfl, q _ H S (rt.add (.int _))⟩
  · cases z
/-! ### min, max of a row of ints -/
theorem le_maxL {ns : List Int} {m : Int} (hm : m ∈ ns) : m ≤ maxL ns := Lc.le_maxL hm
def gMax (d : D) : Option T := match d with
  | .tup xs => (asIs xs).bind fun ns => if ns = [] then none else some (.fz (.int (maxL ns)))
  | _ => none
def gMin (d : D) : Option T := match d with
  | .lst xs => (asIs xs).bind fun ns => if ns = [] then none else some (.fz (.int (minL ns)))
  | _ => none
theorem uns_max : UnS G (fun v => Lc.rMaxT G.K [v]) gMax := fun H S L x d t Q rt w z q => by
  cases d with
  | tup xs =>
    cases h : asIs xs with
    | none => unfold gMax at z; dsimp only at z; rw [h] at z; cases z
    | some bs =>
      unfold gMax at z; dsimp only at z; rw [h] at z
      dsimp only [Option.bind] at z
      split at z
      · cases z
      · next hne =>
        cases z
        obtain ⟨a, vs, rfl, ea, all⟩ := w.tup.tup_inv
        rw [asIs_oc all h] at ea
        cases bs with
        | nil => exact absurd rfl hne
        | cons b bs => exact ⟨a, b, bs, rfl, ea, q _ H S (rt.add (.int _))⟩
  | _ => cases z
theorem uns_min : UnS G (fun v => rMin G.K [v]) gMin := fun H S L x d t Q rt w z q => by
  cases d with
  | lst xs =>
    cases h : asIs xs with
    | none => unfold gMin at z; dsimp only at z; rw [h] at z; cases z
    | some bs =>
      unfold gMin at z; dsimp only at z; rw [h] at z
      dsimp only [Option.bind] at z
      split at z
      · cases z
      · next hne =>
        cases z
        obtain ⟨a, vs, rfl, ea, all⟩ := w.lst_inv
        rw [asIs_oc all h] at ea
        refine ⟨a, bs, rfl, .inl (.inl ea), List.length_pos_iff.mpr hne, fun m hm hl => ?_⟩
        rw [Lc.minL_of hm hl]
        exact q _ H S (rt.add (.int _))
  | _ => cases z
/-! ### tuple(a list) -/
def gTupOf (d : D) : Option T := match d with
  | .lst xs => some (.fz (.tup xs))
  | _ => none
theorem pm_tupOf {xp : Pos} (hK : X.K = G.K) (hg : Gl X "tuple") (hm : X.mg "tuple" = none) (ha : PMo G W X a p) (na : starEach [a] X.env = (false, eval a X.env) :: starEach [] X.env := by rfl) : PM G W X (.Call (.Name "tuple" xp) [a] [] pos) (mUn gTupOf p) :=
  pe_mono (Lc.pe_tupleOfFK G.K hg hm ha hK na) fun σ H Q h => by
  refine mUn_run (g := gTupOf) (r := fun x H1 Q => ∃ a xs, x = .ref a ∧ SqL G.K H1 a xs ∧ ∀ p H2, H1 p = none → Same H1 H2 → Tp H2 p true xs → (∀ b, H2 b = none → H1 b = none) → Q (.ref p) H2) (fun H S L x d u Q rt w z q => ?_) h
  cases d with
  | lst xs =>
    cases z
    obtain ⟨a, vs, rfl, ea, all⟩ := w.lst_inv
    exact ⟨a, vs, rfl, .inl (.inl ea), fun p H2 hp k tp _ => q _ H2 S (rt.newT k hp tp all)⟩
  | _ => cases z
/-! ### sorted(a list) -/
def tupNe : PyData → Bool
  | .tuple (_ :: _) => true
  | _ => false
def noTup : PyData → Bool
  | .tuple _ => false
  | .none => false
  | _ => true
def sOk (xs : List D) : Bool := xs.all (okAt 16) && ((pds xs).all fun d => (pds xs).all fun e => alike d e) && ((pds xs).all tupNe || (pds xs).all noTup)
def sortD (xs : List D) : List D := xs.mergeSort (dataLe false pd)
def gSort (d : D) : Option T := match d with
  | .lst xs => if sOk xs then some (.ol (sortD xs)) else none
  | _ => none
theorem ocs_zip {α : Type} {f : α → D} : ∀ {vs : List V} {rs : List α}, Ocs G H S vs (rs.map f) → ∀ z ∈ vs.zip rs, Oc G H S z.1 (f z.2)
  | _, [], _, z, hz => by simp at hz
  | _, _ :: _, .cons h t, z, hz => by
    rw [List.zip_cons_cons, List.mem_cons] at hz
    rcases hz with rfl | hz
    · exact h
    · exact ocs_zip t z hz
theorem ocs_of_zip : ∀ {L : List (V × D)}, (∀ z ∈ L, Oc G H S z.1 z.2) → Ocs G H S (L.map Prod.fst) (L.map Prod.snd)
  | [], _ => .nil
  | z :: L, h => .cons (h z List.mem_cons_self) (ocs_of_zip fun y hy => h y (List.mem_cons_of_mem _ hy))
theorem sort_oc {vs : List V} {ds : List D} (oc : Ocs G H S vs ds) : Ocs G H S (((vs.zip (pds ds)).mergeSort (dataLe false Prod.snd)).map Prod.fst) (sortD ds) := by
  have e1 : vs.zip (pds ds) = (vs.zip ds).map fun z => (z.1, pd z.2) := by rw [pds_map, List.zip_map_right]; rfl
  have e2 : ds = (vs.zip ds).map Prod.snd := (List.map_snd_zip (Nat.le_of_eq oc.len.symm)).symm
  have h1 : (vs.zip (pds ds)).mergeSort (dataLe false Prod.snd) = ((vs.zip ds).mergeSort (dataLe false fun z => pd z.2)).map fun z => (z.1, pd z.2) := by
    rw [e1]
    exact (List.map_mergeSort (f := fun z : V × D => (z.1, pd z.2)) (r := dataLe false fun z => pd z.2) (s := dataLe false Prod.snd) (fun _ _ _ _ => rfl)).symm
  have h2 : sortD ds = ((vs.zip ds).mergeSort (dataLe false fun z => pd z.2)).map Prod.snd := by
    unfold sortD
    conv => lhs; rw [e2]
    exact (List.map_mergeSort (f := Prod.snd) (r := dataLe false fun z : V × D => pd z.2) (s := dataLe false pd) (fun _ _ _ _ => rfl)).symm
  rw [h1, h2, List.map_map]
  exact ocs_of_zip fun z hz => ocs_zip (f := id) (by rw [List.map_id]; exact oc) z (List.mem_mergeSort.mp hz)
theorem uns_sort : UnS G (fun v => Lc.rSortD G.K [v]) gSort := fun H S L x d t Q rt w z q => by
  cases d with
  | lst xs =>
    unfold gSort at z
    dsimp only at z
    split at z
    · next h =>
      cases z
      unfold sOk at h
      rw [Bool.and_eq_true, Bool.and_eq_true, Bool.or_eq_true] at h
      obtain ⟨⟨h1, h2⟩, h3⟩ := h
      obtain ⟨a, vs, rfl, ea, all⟩ := w.lst_inv
      obtain ⟨hp, hd⟩ := pds_plain (ok_plain 16) xs h1
      refine ⟨a, vs, pds xs, rfl, .inl (.inl ea), all.dp hp, fun d hd e he => List.all_eq_true.mp (List.all_eq_true.mp h2 d hd) e he, ?_, fun d hd' => ?_, fun p hp => q _ _ _ (rt.newL (Same.upd hp) hp upd_same (sort_oc all))⟩
      · rcases h3 with h3 | h3
        · refine .inl fun d hd => ?_
          have := List.all_eq_true.mp h3 d hd
          unfold tupNe at this
          split at this
          · exact ⟨_, _, rfl⟩
          · cases this
        · refine .inr fun d hd => ?_
          have := List.all_eq_true.mp h3 d hd
          unfold noTup at this
          split at this
          · cases this
          · cases this
          · next h1 h2 => exact ⟨h2, h1⟩
      · have : ∀ (l : List PyData), d ∈ l → d.depth ≤ PyData.depthAll l := by
          intro l hl
          induction l with
          | nil => cases hl
          | cons y l ih =>
            rw [PyData.depthAll]
            rcases List.mem_cons.mp hl with rfl | hl
            · exact Nat.le_max_left _ _
            · exact Nat.le_trans (ih hl) (Nat.le_max_right _ _)
        exact Nat.le_trans (this _ hd') hd
    · cases z
  | _ => cases z
/-! ### -x -/
def gNeg (d : D) : Option T := match d with
  | .int i => some (.fz (.int (-i)))
  | _ => none
theorem pm_neg (ha : PMo G W X a p) : PM G W X (.UnaryOp .USub a pos) (mUn gNeg p) := pe_mono (pe_un un_neg ha) fun σ H Q h => by
  refine mUn_run (g := gNeg) (fun H S L x d u Q rt w z q => ?_) h
  cases d with
  | int i => cases z; exact ⟨i, w.int_inv, q _ H S (rt.add (.int _))⟩
  | _ => cases z
/-! ### min(.., default=d) -/
def gMinDf (d e : D) : Option T := match d with
  | .lst xs => (asIs xs).map fun ns => if ns = [] then .fz e else .fz (.int (minL ns))
  | _ => none
end
end Rx

namespace Rx
open PySem PySem.Spec PyProof.Rows L2 RZ PySem.W
open Lc (Tp AS And1 ButS Lv minL maxL)
/-- the slots off vs stay -/
def Agr (vs : List Nat) (σ σ' : L2.St) : Prop := σ'.length = σ.length ∧ ∀ i, i ∉ vs → σ'[i]? = σ[i]?
theorem Agr.refl (vs : List Nat) (σ : L2.St) : Agr vs σ σ := ⟨rfl, fun _ _ => rfl⟩
theorem Agr.trans {vs : List Nat} {σ σ1 σ2 : L2.St} (a : Agr vs σ σ1) (b : Agr vs σ1 σ2) : Agr vs σ σ2 := ⟨b.1.trans a.1, fun i h => (b.2 i h).trans (a.2 i h)⟩
theorem Agr.sub {vs ws : List Nat} {σ σ' : L2.St} (a : Agr vs σ σ') (h : ∀ i ∈ vs, i ∈ ws) : Agr ws σ σ' := ⟨a.1, fun i hi => a.2 i fun z => hi (h i z)⟩
theorem Agr.set {i : Nat} {vs : List Nat} (h : i ∈ vs) (σ : L2.St) (v : Option V) : Agr vs σ (σ.set i v) := ⟨List.length_set, fun j hj => by
  rw [List.getElem?_set_ne]
  rintro rfl
  exact hj h⟩
/-- how an item x stands as a value -/
abbrev IRel (α : Type) := α → Hp → AS → V → Prop
def irD (G : Gx) : IRel D := fun d H S v => Oc G H S v d
def irP (G : Gx) : IRel (List D) := fun ds H S v => ∃ a us, v = .ref a ∧ SqT G.K H a us ∧ Ocs G H S us ds
section
variable {G : Gx} {W : WX} {X : Cx} {a b c e tg : Expr} {es rest : List Expr} {m n : M T} {p q : Opd} {pos : Pos} {σ : L2.St} {H : Hp} {S : AS} {ρ : Env} {F : Rl} {α β : Type} {o : O β} {IR : IRel α}
/-! ### targets -/
def TGr (G : Gx) (IR : IRel α) (b : α → Env → Option Env) (vs : List Nat) : TG := fun v σ H Q => ∃ S ρ F x ρ', En G H S σ ρ F ∧ IR x H S v ∧ b x ρ = some ρ' ∧ ∀ σ' H' S', Up H S H' S' → En G H' S' σ' ρ' F → Agr vs σ σ' → Q σ' H'
def TGs' (G : Gx) (b : List D → Env → Option Env) (vs : List Nat) : TGs := fun us σ H Q => ∃ S ρ F ds ρ', En G H S σ ρ F ∧ Ocs G H S us ds ∧ b ds ρ = some ρ' ∧ ∀ σ' H' S', Up H S H' S' → En G H' S' σ' ρ' F → Agr vs σ σ' → Q σ' H'
def PMg (G : Gx) (X : Cx) (IR : IRel α) (tg : Expr) (b : α → Env → Option Env) (vs : List Nat) : Prop := PG X tg (TGr G IR b vs)
def PMgs (G : Gx) (X : Cx) (es : List Expr) (b : List D → Env → Option Env) (vs : List Nat) : Prop := PGs X es (TGs' G b vs)
theorem pg_mono {t t' : TG} (h : PG X tg t) (k : ∀ v σ H Q, t' v σ H Q → t v σ H Q) : PG X tg t' := ⟨fun pins s σ H v u Q I r q => h.run pins s σ H v u Q I r (k v σ H Q q)⟩
theorem pgs_mono {t t' : TGs} (h : PGs X es t) (k : ∀ v σ H Q, t' v σ H Q → t v σ H Q) : PGs X es t' := ⟨fun pins s σ H v u Q I r q => h.run pins s σ H v u Q I r (k v σ H Q q)⟩
def setE (i : Nat) (t : T) (ρ : Env) : Option Env := if i < ρ.length then some (ρ.set i t) else none
def bN (i : Nat) : D → Env → Option Env := fun d ρ => setE i (.fz d) ρ
theorem setE_inv {i : Nat} {t : T} {ρ ρ' : Env} (h : setE i t ρ = some ρ') : i < ρ.length ∧ ρ' = ρ.set i t := by
  unfold setE at h
  split at h
  · next hi => cases h; exact ⟨hi, rfl⟩
  · cases h
theorem pmg_name (i : Nat) {x : Str} {xp : Pos} {vs : List Nat} (hN : X.N.Nodup) (hi : X.N[i]? = some x) (hx : Loc X.env.scope x) (hm : i ∈ vs) (hf : X.fn x = true ∨ X.env.scope.names.lookup x = some .local := by first | exact .inl rfl | exact .inr rfl | assumption) : PMg G X (irD G) (.Name x xp) (bN i) vs :=
  pg_mono (pg_name hN hi hx hf) fun v σ H Q ⟨S, ρ, F, d, ρ', e, oc, h, q⟩ => by
  obtain ⟨hl, rfl⟩ := setE_inv h
  obtain ⟨S', u, e'⟩ := (e.add oc).set hl
  exact q _ H S' u e' (Agr.set hm σ _)
def bNil : List D → Env → Option Env
  | [], ρ => some ρ
  | _ :: _, _ => none
def bCons (b : D → Env → Option Env) (r : List D → Env → Option Env) : List D → Env → Option Env
  | d :: ds, ρ => (b d ρ).bind (r ds)
  | [], _ => none
theorem pmgs_nil {vs : List Nat} : PMgs G X [] bNil vs := pgs_mono pgs_nil fun us σ H Q ⟨S, ρ, F, ds, ρ', e, oc, h, q⟩ => by
  cases oc with
  | nil => cases h; exact ⟨rfl, q σ H S (Up.refl _ _) e (Agr.refl _ _)⟩
  | cons _ _ => cases h
theorem pmgs_cons {b : D → Env → Option Env} {r : List D → Env → Option Env} {vs : List Nat} (h1 : PMg G X (irD G) e b vs) (h2 : PMgs G X es r vs) (hs : (assignEach (e :: es) X.env).map (·.2) = assign e X.env :: (assignEach es X.env).map (·.2) := by rfl) : PMgs G X (e :: es) (bCons b r) vs :=
  pgs_mono (pgs_cons h1 h2 hs) fun us σ H Q ⟨S, ρ, F, ds, ρ', e, oc, h, q⟩ => by
  cases oc with
  | nil => cases h
  | cons o1 o2 =>
    unfold bCons at h
    dsimp only at h
    cases z : b _ ρ with
    | none => rw [z] at h; cases h
    | some ρ1 =>
      rw [z] at h
      exact ⟨_, _, rfl, S, ρ, F, _, ρ1, e, o1, z, fun σ1 H1 S1 u1 e1 a1 => ⟨S1, ρ1, F, _, ρ', e1, o2.up u1, h, fun σ2 H2 S2 u2 e2 a2 => q σ2 H2 S2 (u1.trans u2) e2 (a1.trans a2)⟩⟩
def bTup (n : Nat) (r : List D → Env → Option Env) : D → Env → Option Env := fun d ρ => match d with
  | .tup ds => if ds.length = n then r ds ρ else none
  | _ => none
theorem pmg_tup {r : List D → Env → Option Env} {vs : List Nat} {k nn : Nat} (hK : X.K = G.K) (hc : X.calm = true) (h : PMgs G X es r vs) (hn : (assignEach es X.env).length = nn := by rfl) (hst : (assignEach es X.env).findIdx? (·.1) = none := by rfl) : PMg G X (irD G) (.Tuple es k pos) (bTup nn r) vs :=
  pg_mono (pg_tup hc h hn hst) fun v σ H Q ⟨S, ρ, F, d, ρ', e, oc, h, q⟩ => by
  cases d with
  | tup ds =>
    unfold bTup at h
    dsimp only at h
    split at h
    · next hl =>
      obtain ⟨a, us, ev, sq, all⟩ := Oc.tup_inv (show Oc G H S v (.tup ds) from oc)
      subst ev
      rw [hK]
      exact ⟨a, us, rfl, sq, by rw [all.len]; exact hl, S, ρ, F, ds, ρ', e, all, h, q⟩
    · cases h
  | _ => cases h
def bPr (n : Nat) (r : List D → Env → Option Env) : List D → Env → Option Env := fun ds ρ => if ds.length = n then r ds ρ else none
theorem pmg_pr {r : List D → Env → Option Env} {vs : List Nat} {k nn : Nat} (hK : X.K = G.K) (hc : X.calm = true) (h : PMgs G X es r vs) (hn : (assignEach es X.env).length = nn := by rfl) (hst : (assignEach es X.env).findIdx? (·.1) = none := by rfl) : PMg G X (irP G) (.Tuple es k pos) (bPr nn r) vs :=
  pg_mono (pg_tup hc h hn hst) fun v σ H Q ⟨S, ρ, F, d, ρ', e, oc, h, q⟩ => by
  unfold bPr at h
  split at h
  · next hl =>
    obtain ⟨a, us, ev, sq, all⟩ := oc
    subst ev
    rw [hK]
    exact ⟨a, us, rfl, sq, by rw [all.len]; exact hl, S, ρ, F, d, ρ', e, all, h, q⟩
  · cases h
/-! ### what is walked -/
structure IOk (G : Gx) (IR : IRel α) (J : It) (hs : Rl) (xs : List α) : Prop where
  go : ∀ H S L i, Rt G H S (hs ++ L) → i < xs.length → J.go i H
  stop : ∀ H S L i, Rt G H S (hs ++ L) → xs.length ≤ i → J.stop i H
  yld : ∀ H S L i v H', Rt G H S (hs ++ L) → i < xs.length → J.yld i H v H' → ∃ x, xs[i]? = some x ∧ Same H H' ∧ IR x H' S v
def OutI (G : Gx) (W : WX) (IR : IRel α) (σ : L2.St) (F : Rl) (R : It → Hp → Prop) : O (List α) → Prop
  | .ok xs ρ => ∀ J H S hs, En G H S σ ρ (hs ++ F) → IOk G IR J hs xs → R J H
  | .ex x ρ => ExF G W σ F x ρ
theorem OutI.hx {R : It → Hp → Prop} {o : O (List α)} (h : OutI G W IR σ F R o) : ∀ x ρ', o = .ex x ρ' → ExF G W σ F x ρ' := fun x ρ' e => by subst e; exact h
def TIo (G : Gx) (W : WX) (IR : IRel α) (m : M (List α)) : TI := fun σ H R => ∃ S ρ F o, En G H S σ ρ F ∧ m ρ = some o ∧ OutI G W IR σ F R o
def PMi (G : Gx) (W : WX) (X : Cx) (IR : IRel α) (tg e : Expr) (m : M (List α)) : Prop := PI X tg e (TIo G W IR m)
theorem pi_mono {t t' : TI} (h : PI X tg e t) (k : ∀ σ H R, t' σ H R → t σ H R) : PI X tg e t' := ⟨fun pins s σ H R I q => h.run pins s σ H R I (k σ H R q)⟩
theorem TIo.go {mi : M (List α)} {f : List α → M β} {K : It → Hp → Prop} (e : En G H S σ ρ F) (hm : mi.bind f ρ = some o) (hx : ∀ x ρ', o = .ex x ρ' → ExF G W σ F x ρ')
    (k : ∀ xs ρ1 J H1 S1 hs, f xs ρ1 = some o → En G H1 S1 σ ρ1 (hs ++ F) → IOk G IR J hs xs → K J H1) : TIo G W IR mi σ H K := by
  unfold M.bind at hm
  cases q : mi ρ with
  | none => rw [q] at hm; cases hm
  | some r =>
    rw [q] at hm
    refine ⟨S, ρ, F, r, e, q, ?_⟩
    cases r with
    | ok t ρ1 => exact fun J H1 S1 hs e1 ok => k t ρ1 J H1 S1 hs hm e1 ok
    | ex x ρ1 => exact hx x ρ1 (Option.some.inj hm).symm
/-- a list or a tuple -/
def iSeq (K : PySem.W.Frag) (te : TE) : TI := fun σ H R => te σ H fun x H1 => ∃ a, x = .ref a ∧ (((∃ xs, SqL K H1 a xs) ∧ R (Itl K a) H1) ∨ ((∃ xs, SqT K H1 a xs) ∧ R (Itt K a) H1))
theorem pi_seq {te : TE} (hl : PE X e te) : PI X tg e (iSeq X.K te) := by
  refine ⟨fun pins s σ H R I h => ?_⟩
  refine thn (hl.run pins s σ H _ I h) fun v s1 ⟨x, H1, I1, r1, q1⟩ => ?_
  obtain ⟨a, ex, ⟨⟨xs, hq⟩, q⟩ | ⟨⟨xs, hq⟩, q⟩⟩ := q1
  · subst ex
    cases r1
    obtain ⟨its, rv, p, hz⟩ := I1.list hq
    refine wpAny_pyIter_list p.isList ?_
    refine ⟨s1.heap.objs.size, [s1.heap.objs.size], _, _, H1, rfl, I1.kept (t' := s1.toks) fun b o e => Heap.get?_push_of_some _ e, turn_list a _, ⟨_, Heap.get?_push_size _ rfl, rfl, rfl⟩, fun b hb => ?_, q⟩
    have e : b = s1.heap.objs.size := by simpa using hb
    subst e
    exact I1.fpOk (Nat.le_refl _) (I1.hok.fresh (Nat.le_refl _))
  · subst ex
    cases r1
    obtain ⟨its, rv, p, hz⟩ := I1.tuple hq
    refine wpAny_pyIter_tuple (show s1.heap.IsTuple a its.toArray from p) ?_
    refine ⟨s1.heap.objs.size, [s1.heap.objs.size], _, _, H1, rfl, I1.kept (t' := s1.toks) fun b o e => Heap.get?_push_of_some _ e, turn_tuple a _, ⟨_, Heap.get?_push_size _ rfl, rfl, rfl⟩, fun b hb => ?_, q⟩
    have e : b = s1.heap.objs.size := by simpa using hb
    subst e
    exact I1.fpOk (Nat.le_refl _) (I1.hok.fresh (Nat.le_refl _))
def D.walk : D → Option (List D)
  | .lst xs => some xs
  | .tup xs => some xs
  | .scr ns => some (ns.map .int)
  | _ => none
def iD (m : M T) : M (List D) := (mD m).bind fun d => M.opt d.walk
theorem Oc.lst2 {v : V} {ds : List D} (h : Oc G H S v (.lst ds)) : ∃ a vs, v = .ref a ∧ SqL G.K H a vs ∧ Ocs G H S vs ds := by
  obtain ⟨a, vs, h1, h2, _, h3⟩ := h.lst_inv
  exact ⟨a, vs, h1, .inl (.inl h2), h3⟩
theorem ok_list {a : Addr} {d : D} {xs : List D} (hd : d.walk = some xs) (hl : ∀ H S, Oc G H S (.ref a) d → ∃ vs, SqL G.K H a vs ∧ Ocs G H S vs xs) : IOk G (irD G) (Itl G.K a) [(some (.ref a), .fz d)] xs where
  go := fun H S L i r hi => by
    obtain ⟨vs, h1, h2⟩ := hl H S r.fz
    obtain ⟨v, hv, _⟩ := h2.get (List.getElem?_eq_getElem hi)
    exact ⟨vs, v, h1, hv⟩
  stop := fun H S L i r hi => by
    obtain ⟨vs, h1, h2⟩ := hl H S r.fz
    exact ⟨vs, h1, by rw [h2.len]; exact hi⟩
  yld := fun H S L i v H' r hi y => by
    obtain ⟨vs, h1, h2⟩ := hl H S r.fz
    obtain ⟨rfl, y⟩ := y
    obtain ⟨d, hd, o⟩ := h2.at (y vs h1)
    exact ⟨d, hd, Same.refl _, o⟩
theorem ok_tuple {a : Addr} {xs : List D} : IOk G (irD G) (Itt G.K a) [(some (.ref a), .fz (.tup xs))] xs where
  go := fun H S L i r hi => by
    obtain ⟨a', vs, e, h1, h2⟩ := r.fz.tup_inv
    cases e
    obtain ⟨v, hv, _⟩ := h2.get (List.getElem?_eq_getElem hi)
    exact ⟨vs, v, h1, hv⟩
  stop := fun H S L i r hi => by
    obtain ⟨a', vs, e, h1, h2⟩ := r.fz.tup_inv
    cases e
    exact ⟨vs, h1, by rw [h2.len]; exact hi⟩
  yld := fun H S L i v H' r hi y => by
    obtain ⟨a', vs, e, h1, h2⟩ := r.fz.tup_inv
    cases e
    obtain ⟨rfl, y⟩ := y
    obtain ⟨d, hd, o⟩ := h2.at (y vs h1)
    exact ⟨d, hd, Same.refl _, o⟩
theorem pmi_seq (hK : X.K = G.K) (ha : PM G W X e m) : PMi G W X (irD G) tg e (iD m) := pi_mono (pi_seq ha) fun σ H R ⟨S, ρ, F, o, e, h, q⟩ => by
  rw [hK]
  refine TEo.goD e h q.hx fun d ρ1 v H1 S1 h1 e1 => ?_
  unfold M.opt at h1
  cases z : d.walk with
  | none => rw [z] at h1; cases h1
  | some xs =>
    rw [z] at h1; cases h1
    have o1 := e1.fz
    cases d with
    | lst ds =>
      cases z
      obtain ⟨a, vs, rfl, h2, h3⟩ := o1.lst2
      refine ⟨a, rfl, .inl ⟨⟨vs, h2⟩, q _ H1 S1 [(some (.ref a), .fz (.lst xs))] e1 (ok_list rfl fun H S o => ?_)⟩⟩
      obtain ⟨a', vs, e, h2, h3⟩ := o.lst2
      cases e
      exact ⟨vs, h2, h3⟩
    | tup ds =>
      cases z
      obtain ⟨a, vs, ev, h2, h3⟩ := o1.tup_inv
      subst ev
      exact ⟨a, rfl, .inr ⟨⟨vs, h2⟩, q _ H1 S1 [(some (.ref a), .fz (.tup xs))] e1 ok_tuple⟩⟩
    | scr ns =>
      cases z
      obtain ⟨_, rfl, e2⟩ := o1.scr_inv
      refine ⟨_, rfl, .inl ⟨⟨_, e2⟩, q _ H1 S1 [(_, .fz (.scr ns))] e1 (ok_list rfl fun H S o => ?_)⟩⟩
      obtain ⟨_, h1, e2⟩ := o.scr_inv
      cases h1
      exact ⟨_, e2, ocs_ints _⟩
    | _ => cases z
/-! ### range -/
def rng (lo : Int) (n : Nat) : List D := (List.range n).map fun (i : Nat) => D.int (lo + i)
theorem rng_len (lo : Int) (n : Nat) : (rng lo n).length = n := by unfold rng; rw [List.length_map, List.length_range]
theorem rng_get {lo : Int} {n i : Nat} (h : i < n) : (rng lo n)[i]? = some (.int (lo + i)) := by
  unfold rng
  rw [List.getElem?_map, List.getElem?_range h]; rfl
theorem ok_range {lo : Int} {k : Nat} : IOk G (irD G) (Itr lo k) [] (rng lo k) where
  go := fun H S L i r hi => by rw [rng_len] at hi; exact hi
  stop := fun H S L i r hi => by rw [rng_len] at hi; exact hi
  yld := fun H S L i v H' r hi y => by
    rw [rng_len] at hi
    obtain ⟨rfl, rfl⟩ := y
    exact ⟨_, rng_get hi, Same.refl _, .int _⟩
def i62 (i : Int) : Bool := decide (-(2 ^ 62) ≤ i) && decide (i < 2 ^ 62)
def iR1 (m : M T) : M (List D) := (mD m).bind fun d => M.opt (match d with
  | .int j => if i62 j then some (rng 0 j.toNat) else none
  | _ => none)
def iR2 (m n : M T) : M (List D) := (mD m).bind fun d => (mD n).bind fun e => M.opt (match d, e with
  | .int i, .int j => if i62 i && i62 j then some (rng i (j - i).toNat) else none
  | _, _ => none)
theorem i62_iff {i : Int} (h : i62 i = true) : -(2 ^ 62) ≤ i ∧ i < 2 ^ 62 := by
  unfold i62 at h
  rw [Bool.and_eq_true, decide_eq_true_eq, decide_eq_true_eq] at h
  exact h
theorem pmi_range1 {xp : Pos} (hg : Gl X "range") (hm : X.mg "range" = none) (ha : PM G W X a m) (hs : starEach [a] X.env = [(false, eval a X.env)] := by rfl) : PMi G W X (irD G) tg (.Call (.Name "range" xp) [a] [] pos) (iR1 m) :=
  pi_mono (pi_range1 hg hm (pa_cons ha pa_nil (by rw [hs]; rfl)) hs) fun σ H R ⟨S, ρ, F, o, e, h, q⟩ => by
  refine TEo.goD e h q.hx fun d ρ1 v H1 S1 h1 e1 => ?_
  unfold M.opt at h1
  cases d with
  | int j =>
    dsimp only at h1
    split at h1
    · next xs z =>
      split at z
      · next hj =>
        cases z; cases h1
        obtain ⟨h2, h3⟩ := i62_iff hj
        obtain ⟨S2, _, e2⟩ := e1.drop
        exact ⟨j, by rw [e1.fz.int_inv], h2, h3, q _ H1 S2 [] e2 ok_range⟩
      · cases z
    · cases h1
  | _ => cases h1
theorem pmi_range2 {xp : Pos} (hg : Gl X "range") (hm : X.mg "range" = none) (ha : PM G W X a m) (hb : PM G W X b n) (hs : starEach [a, b] X.env = [(false, eval a X.env), (false, eval b X.env)] := by rfl) (hs2 : starEach [b] X.env = [(false, eval b X.env)] := by rfl) : PMi G W X (irD G) tg (.Call (.Name "range" xp) [a, b] [] pos) (iR2 m n) :=
  pi_mono (pi_range2 hg hm (pa_cons ha (pa_cons hb pa_nil (by rw [hs2]; rfl)) (by rw [hs, hs2])) hs hs2) fun σ H R ⟨S, ρ, F, o, e, h, q⟩ => by
  refine TEo.goD e h q.hx fun d ρ1 v H1 S1 h1 e1 => ?_
  refine TEo.goD e1 h1 (fun x ρ' z => (q.hx x ρ' z).mono) fun d2 ρ2 w H2 S2 h2 e2 => ?_
  unfold M.opt at h2
  split at h2
  · next xs z =>
    split at z
    · next i j =>
      split at z
      · next hj =>
        cases z; cases h2
        rw [Bool.and_eq_true] at hj
        obtain ⟨h4, h5⟩ := i62_iff hj.1
        obtain ⟨h6, h7⟩ := i62_iff hj.2
        have ev : v = .int i := Oc.int_inv (H := H2) (S := S2) (e2.frame (List.Perm.swap _ _ _)).fz
        obtain ⟨S3, _, e3⟩ := e2.drop
        obtain ⟨S4, _, e4⟩ := e3.drop
        exact ⟨i, j, by rw [ev, e2.fz.int_inv], ⟨h4, h5, h6, h7⟩, q _ H2 S4 [] e4 ok_range⟩
      · cases z
    · cases z
  · cases h2
end
end Rx

namespace Rx
open PySem PySem.Spec PyProof.Rows L2 RZ PySem.W
open Lc (Tp AS And1 ButS Lv minL maxL)
section
variable {G : Gx} {W : WX} {X : Cx} {a b c e tg : Expr} {es rest : List Expr} {m n : M T} {p q : Opd} {pos : Pos} {σ : L2.St} {H : Hp} {S : AS} {ρ : Env} {F : Rl} {α β : Type} {IR : IRel α}
/-! ### comprehensions -/
/-- the slots of a comprehension's own names -/
def wipeT : Env → List Nat → Env
  | ρ, [] => ρ
  | ρ, v :: vs => (wipeT ρ vs).set v .no
theorem wipeT_len : ∀ (ρ : Env) (vs : List Nat), (wipeT ρ vs).length = ρ.length
  | _, [] => rfl
  | ρ, v :: vs => by rw [wipeT, List.length_set, wipeT_len ρ vs]
def backT (ρ0 : Env) : Env → List Nat → Env
  | ρ, [] => ρ
  | ρ, v :: vs => backT ρ0 (match ρ0[v]? with
    | some t => ρ.set v t
    | none => ρ) vs
def W0 : WX := fun _ _ _ _ => False
/-- one turn's outcome: an item or none, and the slots -/
def turnLc (b : α → Env → Option Env) (t : M Bool) (m : M T) (x : α) (ρ : Env) : Option (Option D × Env) := (b x ρ).bind fun ρ1 => match t ρ1 with
  | some (.ok true ρ2) => match mD m ρ2 with
    | some (.ok d ρ3) => some (some d, ρ3)
    | _ => none
  | some (.ok false ρ2) => some (none, ρ2)
  | _ => none
def loopLc (b : α → Env → Option Env) (t : M Bool) (m : M T) (vs : List Nat) : List α → Env → Option (List D × Env)
  | [], ρ => some ([], ρ)
  | x :: xs, ρ => (turnLc b t m x ρ).bind fun r => (loopLc b t m vs xs (wipeT r.2 vs)).map fun q => (r.1.toList ++ q.1, q.2)
def mLc (it : M (List α)) (b : α → Env → Option Env) (t : M Bool) (m : M T) (vs : List Nat) : M T := it.bind fun xs => fun ρ => if sizeOk xs.length then
    match loopLc b t m vs xs (wipeT ρ vs) with
    | some (ds, ρ') => some (.ok (.ol ds) (backT ρ ρ' vs))
    | none => none
  else none
theorem wipe_out {v : Nat} {vs : List Nat} (h : ¬ v < ρ.length) (l : σ.length = ρ.length) : wipe σ (v :: vs) = wipe σ vs ∧ wipeT ρ (v :: vs) = wipeT ρ vs := by
  refine ⟨List.set_eq_of_length_le (by rw [wipe_length]; omega), List.set_eq_of_length_le (by rw [wipeT_len]; omega)⟩
theorem En.wipes : ∀ (vs : List Nat) {S : AS} {F : Rl}, En G H S σ ρ F → ∃ S', Up H S H S' ∧ En G H S' (wipe σ vs) (wipeT ρ vs) F
  | [], S, F, e => ⟨S, Up.refl _ _, e⟩
  | v :: vs, S, F, e => by
    obtain ⟨S1, u1, e1⟩ := En.wipes vs e
    by_cases h : v < ρ.length
    · obtain ⟨S2, u2, e2⟩ := e1.clr (i := v) (by rw [wipeT_len]; exact h) none
      exact ⟨S2, u1.trans u2, e2⟩
    · obtain ⟨z1, z2⟩ := wipe_out (vs := vs) h e.len
      rw [z1, z2]
      exact ⟨S1, u1, e1⟩
/-- what the slots vs hold, kept aside -/
def aside (σ : L2.St) (ρ : Env) : List Nat → Rl
  | [] => []
  | v :: vs => aside σ ρ vs ++ (match σ[v]?, ρ[v]? with
    | some x, some t => [(x, t)]
    | _, _ => [])
theorem wipeT_get {ρ : Env} {v : Nat} : ∀ {vs : List Nat}, v ∉ vs → (wipeT ρ vs)[v]? = ρ[v]?
  | [], _ => rfl
  | w :: vs, h => by
    rw [wipeT, List.getElem?_set_ne (fun z => h (by rw [z]; exact List.mem_cons_self)), wipeT_get fun z => h (List.mem_cons_of_mem _ z)]
theorem wipe_get {σ : L2.St} {v : Nat} : ∀ {vs : List Nat}, v ∉ vs → (wipe σ vs)[v]? = σ[v]?
  | [], _ => rfl
  | w :: vs, h => by
    rw [wipe, List.getElem?_set_ne (fun z => h (by rw [z]; exact List.mem_cons_self)), wipe_get fun z => h (List.mem_cons_of_mem _ z)]
theorem aside_in {v : Nat} {vs : List Nat} {x : Option V} {t : T} (h1 : σ[v]? = some x) (h2 : ρ[v]? = some t) : aside σ ρ (v :: vs) = aside σ ρ vs ++ [(x, t)] := by
  show aside σ ρ vs ++ _ = _
  rw [h1, h2]
theorem aside_out {v : Nat} {vs : List Nat} (h : ¬ v < ρ.length) : aside σ ρ (v :: vs) = aside σ ρ vs := by
  show aside σ ρ vs ++ _ = _
  rw [List.getElem?_eq_none (l := ρ) (by omega)]
  cases σ[v]? <;> exact List.append_nil _
/-- wiped slots, what they held kept aside -/
theorem En.wipeA : ∀ (vs : List Nat) {S : AS} {F : Rl}, vs.Nodup → En G H S σ ρ F → ∃ S', Up H S H S' ∧ En G H S' (wipe σ vs) (wipeT ρ vs) (aside σ ρ vs ++ F)
  | [], S, F, _, e => ⟨S, Up.refl _ _, e⟩
  | v :: vs, S, F, nd, e => by
    obtain ⟨nv, nd⟩ := List.nodup_cons.mp nd
    obtain ⟨S1, u1, e1⟩ := En.wipeA vs nd e
    by_cases h : v < ρ.length
    · have h' : v < (wipeT ρ vs).length := by rw [wipeT_len]; exact h
      obtain ⟨x, hx, e2⟩ := e1.take (List.getElem?_eq_getElem h')
      obtain ⟨S3, u3, e3⟩ := e2.clr (i := v) (by rw [List.length_set]; exact h') none
      refine ⟨S3, u1.trans u3, ?_⟩
      have e5 : (wipeT ρ vs)[v]? = some ((wipeT ρ vs)[v]) := List.getElem?_eq_getElem h'
      rw [wipeT_get nv] at e5
      rw [wipe_get nv] at hx
      rw [aside_in hx e5, List.append_assoc]
      rw [List.set_set] at e3
      exact e3.frame List.perm_middle.symm
    · obtain ⟨z1, z2⟩ := wipe_out (vs := vs) h e.len
      rw [z1, z2, aside_out h]
      exact ⟨S1, u1, e1⟩
/-- back at the old values of wiped slots -/
theorem En.unwipe : ∀ (vs : List Nat) {S : AS} {F : Rl} {ρ1 : Env}, En G H S (wipe σ vs) ρ1 F → (∀ v ∈ vs, v < ρ1.length → ρ1[v]? = some .no) → ∃ S', Up H S H S' ∧ En G H S' σ ρ1 F
  | [], S, F, ρ1, e, _ => ⟨S, Up.refl _ _, e⟩
  | v :: vs, S, F, ρ1, e, h => by
    have l : (wipe σ vs).length = ρ1.length := by
      have := e.len
      unfold wipe at this
      rw [List.length_set] at this
      exact this
    by_cases hv : v < ρ1.length
    · have hs : v < (wipe σ vs).length := by rw [l]; exact hv
      obtain ⟨S1, u1, e1⟩ := e.clr hv ((wipe σ vs)[v])
      have z1 : ((wipe σ vs).set v none).set v ((wipe σ vs)[v]) = wipe σ vs := by rw [List.set_set, List.set_getElem_self]
      have z2 : ρ1.set v .no = ρ1 := slot_set (h v List.mem_cons_self hv)
      have e1 : En G H S1 (((wipe σ vs).set v none).set v ((wipe σ vs)[v])) (ρ1.set v .no) F := e1
      rw [z1, z2] at e1
      obtain ⟨S2, u2, e2⟩ := En.unwipe vs e1 fun w hw => h w (List.mem_cons_of_mem _ hw)
      exact ⟨S2, u1.trans u2, e2⟩
    · have z1 : wipe σ (v :: vs) = wipe σ vs := List.set_eq_of_length_le (by omega)
      rw [z1] at e
      exact En.unwipe vs e fun w hw => h w (List.mem_cons_of_mem _ hw)
theorem En.backA (l : σ.length = ρ.length) : ∀ (vs : List Nat) {S : AS} {F : Rl} {ρ1 : Env}, En G H S σ ρ1 (aside σ ρ vs ++ F) → ∃ S', Up H S H S' ∧ En G H S' σ (backT ρ ρ1 vs) F
  | [], S, F, ρ1, e => ⟨S, Up.refl _ _, e⟩
  | v :: vs, S, F, ρ1, e => by
    by_cases h : v < ρ.length
    · have hσ : v < σ.length := by rw [l]; exact h
      rw [aside_in (List.getElem?_eq_getElem hσ) (List.getElem?_eq_getElem h), List.append_assoc] at e
      obtain ⟨S1, u1, e1⟩ := En.give (e.frame List.perm_middle) (i := v) (by rw [← e.len]; exact hσ) (List.getElem?_eq_getElem hσ)
      obtain ⟨S2, u2, e2⟩ := En.backA l vs e1
      refine ⟨S2, u1.trans u2, ?_⟩
      show En G H S2 σ (backT ρ (match ρ[v]? with | some t => ρ1.set v t | none => ρ1) vs) F
      rw [List.getElem?_eq_getElem h]
      exact e2
    · rw [aside_out h] at e
      obtain ⟨S2, u2, e2⟩ := En.backA l vs e
      refine ⟨S2, u2, ?_⟩
      show En G H S2 σ (backT ρ (match ρ[v]? with | some t => ρ1.set v t | none => ρ1) vs) F
      rw [List.getElem?_eq_none (by omega)]
      exact e2
theorem wipeT_in {v : Nat} : ∀ {vs : List Nat} {ρ : Env}, v ∈ vs → v < (wipeT ρ vs).length → (wipeT ρ vs)[v]? = some .no
  | w :: vs, ρ, h, hl => by
    rw [wipeT, List.length_set, wipeT_len] at hl
    rw [wipeT]
    by_cases e : w = v
    · subst e
      rw [List.getElem?_set_self (by rw [wipeT_len]; exact hl)]
    · rw [List.getElem?_set_ne e]
      exact wipeT_in ((List.mem_cons.mp h).resolve_left fun z => e z.symm) (by rw [wipeT_len]; exact hl)
theorem wipe_out1 (σ : L2.St) (vs : List Nat) : ∀ {i : Nat}, i ∈ vs → i < σ.length → (wipe σ vs)[i]? = some none := by
  induction vs with
  | nil => intro i h; cases h
  | cons w vs ih =>
    intro i h hl
    rw [wipe]
    by_cases e : w = i
    · subst e
      rw [List.getElem?_set_self (by rw [wipe_length]; exact hl)]
    · rw [List.getElem?_set_ne e]
      exact ih ((List.mem_cons.mp h).resolve_left fun z => e z.symm) hl
/-- slots that agree off vs are alike when wiped -/
theorem wipe_agr {σ σ2 : L2.St} {vs : List Nat} (a : Agr vs (wipe σ vs) σ2) : wipe σ2 vs = wipe σ vs := by
  have l : σ2.length = σ.length := by rw [a.1, wipe_length]
  apply List.ext_getElem?
  intro i
  by_cases hi : i ∈ vs
  · by_cases hl : i < σ.length
    · rw [wipe_out1 σ vs hi hl, wipe_out1 σ2 vs hi (by rw [l]; exact hl)]
    · rw [List.getElem?_eq_none (by rw [wipe_length]; omega), List.getElem?_eq_none (by rw [wipe_length]; omega)]
  · rw [wipe_get hi, a.2 i hi]
theorem mD_ok {ρ ρ' : Env} {d : D} (h : mD m ρ = some (.ok d ρ')) : ∃ t, m ρ = some (.ok t ρ') ∧ t.fr = some d := by
  unfold mD M.bind M.opt at h
  cases z : m ρ with
  | none => rw [z] at h; cases h
  | some o =>
    rw [z] at h
    cases o with
    | ex x ρ1 => cases h
    | ok t ρ1 =>
      dsimp only at h
      cases z2 : t.fr with
      | none => rw [z2] at h; cases h
      | some d' => rw [z2] at h; cases h; exact ⟨t, rfl, z2⟩
/-! ### one clause -/
theorem mLc_run {it : M (List α)} {bd : α → Env → Option Env} {t : M Bool} {vs : List Nat} (nd : vs.Nodup) {Q : VK} (z : TEo G W (mLc it bd t m vs) σ H Q) : tLc (TIo G W IR it) (TGr G IR bd vs) (TTo G W0 t) (TEo G W0 m) vs σ H Q := by
  obtain ⟨S, ρ, F, o, e, h, q⟩ := z
  unfold mLc at h
  refine TIo.go e h q.hx fun xs ρ1 J H1 S1 hs h1 e1 jok => ?_
  intro L0 hD
  split at h1
  case isFalse => cases h1
  next hsz =>
  have hsz : xs.length ≤ sizeLine := of_decide_eq_true hsz
  cases hl : loopLc bd t m vs xs (wipeT ρ1 vs) with
  | none => rw [hl] at h1; cases h1
  | some r =>
    obtain ⟨ds, ρ'⟩ := r
    rw [hl] at h1
    cases h1
    obtain ⟨S2, u2, e2⟩ := En.wipeA vs nd e1
    have e3 : En G (upd H1 L0 (.lst [])) (And1 S2 L0) (wipe σ vs) (wipeT ρ1 vs) ((some (.ref L0), .ol []) :: (aside σ ρ1 vs ++ (hs ++ F))) := En.ofHead e2.len (e2.rt.newL (Same.upd hD) hD upd_same .nil)
    refine ⟨fun i mm H => i ≤ xs.length ∧ mm = xs.length - i ∧ ∃ S ρx acc rest, acc.length ≤ i ∧ En G H S (wipe σ vs) (wipeT ρx vs) ((some (.ref L0), .ol acc) :: (aside σ ρ1 vs ++ (hs ++ F))) ∧ loopLc bd t m vs (xs.drop i) (wipeT ρx vs) = some (rest, ρ') ∧ acc ++ rest = ds,
      ⟨xs.length, Nat.zero_le _, rfl, _, ρ1, [], ds, Nat.zero_le _, e3, hl, rfl⟩, ?_⟩
    rintro i mm H2 ⟨hi, rfl, S3, ρx, acc, rest, la, e4, l4, hds⟩
    have r4 : Rt G H2 S3 (hs ++ ((wipe σ vs).zip (wipeT ρx vs) ++ ((some (.ref L0), .ol acc) :: (aside σ ρ1 vs ++ F)))) := e4.rt.perm (by
      refine List.Perm.trans (List.Perm.append_left _ ?_) (List.perm_append_comm_assoc _ _ _)
      exact ((List.perm_append_comm_assoc _ _ _).cons _).trans List.perm_middle.symm)
    by_cases hlt : i < xs.length
    · refine .inr ⟨jok.go H2 S3 _ i r4 hlt, fun H' => i + 1 ≤ xs.length ∧ ∃ S ρx acc rest, acc.length ≤ i + 1 ∧ En G H' S (wipe σ vs) (wipeT ρx vs) ((some (.ref L0), .ol acc) :: (aside σ ρ1 vs ++ (hs ++ F))) ∧ loopLc bd t m vs (xs.drop (i + 1)) (wipeT ρx vs) = some (rest, ρ') ∧ acc ++ rest = ds,
        fun H' hN' => ⟨xs.length - (i + 1), by omega, hN'.1, rfl, hN'.2⟩, fun x H' y => ?_⟩
      obtain ⟨xx, hxx, k5, ir⟩ := jok.yld H2 S3 _ i x H' r4 hlt y
      have e5 := e4.same k5
      have dr : xs.drop i = xx :: xs.drop (i + 1) := by
        rw [List.drop_eq_getElem_cons hlt]
        rw [List.getElem?_eq_getElem hlt] at hxx
        rw [Option.some.inj hxx]
      rw [dr] at l4
      unfold loopLc at l4
      cases z1 : turnLc bd t m xx (wipeT ρx vs) with
      | none => rw [z1] at l4; cases l4
      | some r1 =>
        rw [z1] at l4
        dsimp only [Option.bind] at l4
        cases z2 : loopLc bd t m vs (xs.drop (i + 1)) (wipeT r1.2 vs) with
        | none => rw [z2] at l4; cases l4
        | some q1 =>
          rw [z2] at l4
          have l5 := Option.some.inj l4
          have el1 : r1.1.toList ++ q1.1 = rest := congrArg Prod.fst l5
          have el2 : q1.2 = ρ' := congrArg Prod.snd l5
          subst el1
          unfold turnLc at z1
          cases z3 : bd xx (wipeT ρx vs) with
          | none => rw [z3] at z1; cases z1
          | some ρ5 =>
            rw [z3] at z1
            dsimp only [Option.bind] at z1
            refine ⟨S3, wipeT ρx vs, _, xx, ρ5, e5, ir, z3, fun σ6 H6 S6 u6 e6 a6 => ?_⟩
            have hw : wipe σ6 vs = wipe σ vs := wipe_agr a6
            refine ⟨hw, ?_⟩
            have fin : ∀ (od : Option D) (ρ7 : Env) (q1 : List D × Env) (H7 : Hp) (S7 : AS) (acc2 : List D), En G H7 S7 σ6 ρ7 ((some (.ref L0), .ol acc2) :: (aside σ ρ1 vs ++ (hs ++ F))) → acc2 = acc ++ od.toList → acc ++ (od.toList ++ q1.1) = ds → loopLc bd t m vs (xs.drop (i + 1)) (wipeT ρ7 vs) = some q1 → q1.2 = ρ' →
                (i + 1 ≤ xs.length ∧ ∃ S ρx acc rest, acc.length ≤ i + 1 ∧ En G H7 S (wipe σ vs) (wipeT ρx vs) ((some (.ref L0), .ol acc) :: (aside σ ρ1 vs ++ (hs ++ F))) ∧ loopLc bd t m vs (xs.drop (i + 1)) (wipeT ρx vs) = some (rest, ρ') ∧ acc ++ rest = ds) := by
              intro od ρ7 q1 H7 S7 acc2 e7 ea ed el eq
              obtain ⟨S8, u8, e8⟩ := En.wipes vs e7
              rw [hw] at e8
              refine ⟨hlt, S8, ρ7, acc2, q1.1, ?_, e8, by rw [el, ← eq], by rw [ea, List.append_assoc]; exact ed⟩
              rw [ea, List.length_append]
              have : od.toList.length ≤ 1 := by cases od <;> simp
              omega
            cases z4 : t ρ5 with
            | none => rw [z4] at z1; cases z1
            | some o4 =>
              rw [z4] at z1
              cases o4 with
              | ex x ρ6 => cases z1
              | ok bb ρ6 =>
                refine ⟨S6, ρ5, _, .ok bb ρ6, e6, z4, fun H7 S7 e7 => ?_⟩
                cases bb with
                | false =>
                  cases z1
                  rw [if_neg Bool.false_ne_true]
                  exact fin none ρ6 q1 H7 S7 acc e7 (by simp) hds z2 el2
                | true =>
                  rw [if_pos rfl]
                  dsimp only at z1
                  cases z5 : mD m ρ6 with
                  | none => rw [z5] at z1; cases z1
                  | some o5 =>
                    rw [z5] at z1
                    cases o5 with
                    | ex x ρ8 => cases z1
                    | ok dd ρ8 =>
                      cases z1
                      obtain ⟨tt, hm, hf⟩ := mD_ok z5
                      refine ⟨S7, ρ6, _, .ok tt ρ8, e7, hm, fun y H8 S8 e8 => ?_⟩
                      obtain ⟨S9, u9, e9⟩ := e8.frz hf
                      have oy := e9.fz
                      obtain ⟨S10, u10, e10⟩ := e9.drop
                      obtain ⟨a', vs', ea', sa, ha, oc⟩ := e10.head.ol_inv
                      cases ea'
                      refine ⟨vs', ha, by rw [oc.len]; omega, ?_⟩
                      have r11 := e10.head.putL (oc.append (.cons (oy.up u10) .nil))
                      exact fin (some dd) ρ8 q1 _ S10 (acc ++ [dd]) (En.ofHead e10.len r11) rfl hds z2 el2
    · have e : i = xs.length := by omega
      subst e
      refine .inl ⟨jok.stop H2 S3 _ _ r4 (Nat.le_refl _), ?_⟩
      rw [List.drop_length] at l4
      cases l4
      rw [List.append_nil] at hds
      subst hds
      obtain ⟨S5, u5, e5⟩ := En.unwipe vs e4 fun v hv hl => wipeT_in hv hl
      have e6 : En G H2 S5 σ (wipeT ρx vs) (aside σ ρ1 vs ++ ((some (.ref L0), .ol acc) :: (hs ++ F))) := e5.frame List.perm_middle.symm
      obtain ⟨S7, u7, e7⟩ := En.backA e1.len vs e6
      obtain ⟨S8, u8, e8⟩ := En.drops (L := hs) (F' := (some (.ref L0), .ol acc) :: F) (e7.frame List.perm_middle.symm) rfl
      exact q _ H2 S8 e8
theorem pm_lc {iter : Expr} {ifs : List Expr} {scope : Scope} {own : List (Str × Nat)} {it : M (List α)} {bd : α → Env → Option Env} {t : M Bool} (vs : List Nat) (hc : X.calm = true) (hN : X.N.Nodup) (hi : PMi G W X IR tg iter it) (ok : BlkOk X.N X.env.scope scope own)
    (hg : ∀ (s : Shared) (H : Hp) (C : Addr) (cl : List (Str × Addr)) (fp : List Addr), PMg G (X.blk s H scope (compEnvC scope cl C X.env) fp) IR tg bd vs)
    (ht : ∀ (s : Shared) (H : Hp) (C : Addr) (cl : List (Str × Addr)) (fp : List Addr), PTs (X.blk s H scope (compEnvC scope cl C X.env) fp) ifs (TTo G W0 t))
    (he : ∀ (s : Shared) (H : Hp) (C : Addr) (cl : List (Str × Addr)) (fp : List Addr), PM G W0 (X.blk s H scope (compEnvC scope cl C X.env) fp) e m) (hv : own.map (·.2) = vs := by rfl) (nd : vs.Nodup := by decide)
    (hs : ∀ x, foldedSetIterable iter X.env x = pure x := by intro _; rfl) : PM G W X (.ListComp e [⟨tg, iter, ifs, 0⟩] scope pos) (mLc it bd t m vs) :=
  pe_mono (pe_lc hc hN hi ok hg ht he hs) fun σ H Q z => by rw [hv]; exact mLc_run nd z
end
end Rx

namespace Rx
open PySem PySem.Spec PyProof.Rows L2 RZ PySem.W
open Lc (Tp AS And1 ButS Lv minL maxL)
/-! ### statements -/
inductive SO where | nx (ρ : Env) | rt (t : T) (ρ : Env) | bk (ρ : Env) | ct (ρ : Env) | ex (x : Xc) (ρ : Env)
abbrev MS := Env → Option SO
section
variable {G : Gx} {W : WX} {X : Cx} {a b c e tg : Expr} {es rest : List Expr} {st : Stmt} {sts : List Stmt} {m n : M T} {ms ns : MS} {as bs : List Nat} {p q : Opd} {pos : Pos} {σ : L2.St} {H : Hp} {S : AS} {ρ : Env} {F : Rl} {α β : Type} {IR : IRel α}
def OutS (G : Gx) (W : WX) (σ : L2.St) (F : Rl) (as : List Nat) (D : Ends) : SO → Prop
  | .nx ρ => ∀ σ' H S, En G H S σ' ρ F → Agr as σ σ' → D.nx σ' H
  | .rt t ρ => ∀ v σ' H S, En G H S σ' ρ ((some v, t) :: F) → Agr as σ σ' → D.rt v H
  | .bk ρ => ∀ σ' H S, En G H S σ' ρ F → Agr as σ σ' → D.bk σ' H
  | .ct ρ => ∀ σ' H S, En G H S σ' ρ F → Agr as σ σ' → D.ct σ' H
  | .ex x ρ => ∀ σ', Agr as σ σ' → ExF G W σ' F x ρ
def TSo (G : Gx) (W : WX) (as : List Nat) (m : MS) : TS := fun D σ H => ∃ S ρ F so, En G H S σ ρ F ∧ m ρ = some so ∧ OutS G W σ F as D so
def PMs (G : Gx) (W : WX) (X : Cx) (st : Stmt) (as : List Nat) (m : MS) : Prop := PS X st (TSo G W as m)
def PMb (G : Gx) (W : WX) (X : Cx) (sts : List Stmt) (as : List Nat) (m : MS) : Prop := PSs X sts (TSo G W as m)
theorem pss_mono {t t' : TS} (h : PSs X sts t) (k : ∀ D σ H, t' D σ H → t D σ H) : PSs X sts t' := ⟨fun pins s σ H D I q => h.run pins s σ H D I (k D σ H q)⟩
theorem OutS.hx {D : Ends} {so : SO} {x : Xc} {ρ' : Env} (h : OutS G W σ F as D so) (e : so = .ex x ρ') : ExF G W σ F x ρ' := by subst e; exact h σ (Agr.refl _ _)
/-- behind a first part -/
theorem OutS.next {σ' : L2.St} {D : Ends} {so : SO} (h : OutS G W σ F as D so) (k : Agr as σ σ') (sub : ∀ i ∈ bs, i ∈ as) : OutS G W σ' F bs D so := by
  cases so with
  | nx ρ => exact fun σ2 H S e a => h σ2 H S e (k.trans (a.sub sub))
  | rt t ρ => exact fun v σ2 H S e a => h v σ2 H S e (k.trans (a.sub sub))
  | bk ρ => exact fun σ2 H S e a => h σ2 H S e (k.trans (a.sub sub))
  | ct ρ => exact fun σ2 H S e a => h σ2 H S e (k.trans (a.sub sub))
  | ex x ρ => exact fun σ2 a => h σ2 (k.trans (a.sub sub))
theorem pms_sub (h : PMs G W X st bs ms) (sub : ∀ i ∈ bs, i ∈ as) : PMs G W X st as ms := ps_mono h fun D σ H ⟨S, ρ, F, so, e, h, q⟩ => ⟨S, ρ, F, so, e, h, q.next (Agr.refl _ _) sub⟩
theorem pmb_sub (h : PMb G W X sts bs ms) (sub : ∀ i ∈ bs, i ∈ as) : PMb G W X sts as ms := pss_mono h fun D σ H ⟨S, ρ, F, so, e, h, q⟩ => ⟨S, ρ, F, so, e, h, q.next (Agr.refl _ _) sub⟩
def sSkip : MS := fun ρ => some (.nx ρ)
def sSeq (m n : MS) : MS := fun ρ => match m ρ with
  | some (.nx ρ') => n ρ'
  | o => o
theorem pmb_nil : PMb G W X [] as sSkip := pss_mono pss_nil fun D σ H ⟨S, ρ, F, so, e, h, q⟩ => by
  cases h
  exact q σ H S e (Agr.refl _ _)
theorem pmb_cons (h1 : PMs G W X st as ms) (h2 : PMb G W X sts as ns) : PMb G W X (st :: sts) as (sSeq ms ns) := pss_mono (pss_cons h1 h2) fun D σ H ⟨S, ρ, F, so, e, h, q⟩ => by
  unfold sSeq at h
  cases z : ms ρ with
  | none => rw [z] at h; cases h
  | some s1 =>
    rw [z] at h
    refine ⟨S, ρ, F, s1, e, z, ?_⟩
    cases s1 with
    | nx ρ1 => exact fun σ' H' S' e' a => ⟨S', ρ1, F, so, e', h, q.next a fun _ z => z⟩
    | rt t ρ1 => cases h; exact q
    | bk ρ1 => cases h; exact q
    | ct ρ1 => cases h; exact q
    | ex x ρ1 => cases h; exact q
theorem pmb_one (h1 : PMs G W X st as ms) : PMb G W X [st] as ms := pss_one h1
theorem pms_pass : PMs G W X (.Pass pos) as sSkip := ps_mono ps_pass fun D σ H ⟨S, ρ, F, so, e, h, q⟩ => by
  cases h
  exact q σ H S e (Agr.refl _ _)
def sBk : MS := fun ρ => some (.bk ρ)
def sCt : MS := fun ρ => some (.ct ρ)
theorem pms_break : PMs G W X (.Break pos) as sBk := ps_mono ps_break fun D σ H ⟨S, ρ, F, so, e, h, q⟩ => by
  cases h
  exact q σ H S e (Agr.refl _ _)
theorem pms_cont : PMs G W X (.Continue pos) as sCt := ps_mono ps_continue fun D σ H ⟨S, ρ, F, so, e, h, q⟩ => by
  cases h
  exact q σ H S e (Agr.refl _ _)
/-- an expression, then a statement of its value -/
def sBind {γ : Type} (m : M γ) (f : γ → MS) : MS := fun ρ => match m ρ with
  | some (.ok x ρ') => f x ρ'
  | some (.ex x ρ') => some (.ex x ρ')
  | none => none
theorem TEo.goS {f : T → MS} {so : SO} {D : Ends} {K : VK} (e : En G H S σ ρ F) (hm : sBind m f ρ = some so) (q : OutS G W σ F as D so)
    (k : ∀ t ρ1 v H1 S1, f t ρ1 = some so → En G H1 S1 σ ρ1 ((some v, t) :: F) → K v H1) : TEo G W m σ H K := by
  unfold sBind at hm
  cases z : m ρ with
  | none => rw [z] at hm; cases hm
  | some r =>
    rw [z] at hm
    refine ⟨S, ρ, F, r, e, z, ?_⟩
    cases r with
    | ok t ρ1 => exact fun v H1 S1 e1 => k t ρ1 v H1 S1 hm e1
    | ex x ρ1 => exact q.hx (Option.some.inj hm).symm
theorem TTo.goS {t : M Bool} {f : Bool → MS} {so : SO} {D : Ends} {K : Bool → Hp → Prop} (e : En G H S σ ρ F) (hm : sBind t f ρ = some so) (q : OutS G W σ F as D so)
    (k : ∀ b ρ1 H1 S1, f b ρ1 = some so → En G H1 S1 σ ρ1 F → K b H1) : TTo G W t σ H K := by
  unfold sBind at hm
  cases z : t ρ with
  | none => rw [z] at hm; cases hm
  | some r =>
    rw [z] at hm
    refine ⟨S, ρ, F, r, e, z, ?_⟩
    cases r with
    | ok t ρ1 => exact fun H1 S1 e1 => k t ρ1 H1 S1 hm e1
    | ex x ρ1 => exact q.hx (Option.some.inj hm).symm
theorem TEo.goSD {f : D → MS} {so : SO} {D : Ends} {K : VK} (e : En G H S σ ρ F) (hm : sBind (mD m) f ρ = some so) (q : OutS G W σ F as D so)
    (k : ∀ d ρ1 v H1 S1, f d ρ1 = some so → En G H1 S1 σ ρ1 ((some v, .fz d) :: F) → K v H1) : TEo G W m σ H K := by
  unfold sBind at hm
  cases z : mD m ρ with
  | none => rw [z] at hm; cases hm
  | some r =>
    rw [z] at hm
    cases r with
    | ok d ρ1 =>
      obtain ⟨t, ht, hf⟩ := mD_ok z
      refine ⟨S, ρ, F, .ok t ρ1, e, ht, fun v H1 S1 e1 => ?_⟩
      obtain ⟨S2, _, e2⟩ := e1.frz hf
      exact k d ρ1 v H1 S2 hm e2
    | ex x ρ1 =>
      refine ⟨S, ρ, F, .ex x ρ1, e, ?_, q.hx (Option.some.inj hm).symm⟩
      unfold mD M.bind M.opt at z
      cases z2 : m ρ with
      | none => rw [z2] at z; cases z
      | some o =>
        rw [z2] at z
        cases o with
        | ex x2 ρ2 => cases z; rfl
        | ok t ρ2 =>
          dsimp only at z
          cases z3 : t.fr with
          | none => rw [z3] at z; cases z
          | some d => rw [z3] at z; cases z
/-- name = e -/
def sSet (i : Nat) (m : M T) : MS := sBind m fun t ρ => (setE i t ρ).map .nx
theorem pms_set (i : Nat) {x : Str} {xp : Pos} (hN : X.N.Nodup) (hi : X.N[i]? = some x) (hx : Loc X.env.scope x) (he : PM G W X e m) (hm : i ∈ as) (hs : swapsWith e (some (.Name x xp)) pos.line X.env = pure false := by rfl) (hf : X.fn x = true ∨ X.env.scope.names.lookup x = some .local := by first | exact .inl rfl | exact .inr rfl | assumption) :
    PMs G W X (.Assign [.Name x xp] e pos) as (sSet i m) := ps_mono (ps_set hN hi hx he hs hf) fun D σ H ⟨S, ρ, F, so, e, h, q⟩ => by
  refine TEo.goS e h q fun t ρ1 v H1 S1 h1 e1 => ?_
  cases z : setE i t ρ1 with
  | none => rw [z] at h1; cases h1
  | some ρ2 =>
    rw [z] at h1; cases h1
    obtain ⟨hl, rfl⟩ := setE_inv z
    obtain ⟨S2, _, e2⟩ := e1.set hl
    exact q _ H1 S2 e2 (Agr.set hm σ _)
/-- a target = e -/
def sTgt (bd : D → Env → Option Env) (m : M T) : MS := sBind (mD m) fun d ρ => (bd d ρ).map .nx
theorem pms_tgt {bd : D → Env → Option Env} {vs : List Nat} (he : PM G W X e m) (hg : PMg G X (irD G) tg bd vs) (sub : ∀ i ∈ vs, i ∈ as) (hs : swapsWithSole [tg] e pos.line X.env = pure false := by rfl) (hw : swappedStores [tg] e X.env = pure none := by rfl)
    (h1 : (assignEach [tg] X.env).map (·.2) = [assign tg X.env] := by rfl) : PMs G W X (.Assign [tg] e pos) as (sTgt bd m) := ps_mono (ps_asg he hg hs hw h1) fun D σ H ⟨S, ρ, F, so, e, h, q⟩ => by
  refine TEo.goSD e h q fun d ρ1 v H1 S1 h1 e1 => ?_
  cases z : bd d ρ1 with
  | none => rw [z] at h1; cases h1
  | some ρ2 =>
    rw [z] at h1; cases h1
    obtain ⟨S2, u2, e2⟩ := e1.drop
    exact ⟨S2, ρ1, F, d, ρ2, e2, e1.fz.up u2, z, fun σ' H' S' _ e' a => q σ' H' S' e' (a.sub sub)⟩
def sDo (m : M T) : MS := sBind m fun _ ρ => some (.nx ρ)
theorem pms_do (he : PM G W X e m) (hs : swapsWith e none pos.line X.env = pure false := by rfl) : PMs G W X (.Expr e pos) as (sDo m) := ps_mono (ps_expr he hs) fun D σ H ⟨S, ρ, F, so, e, h, q⟩ => by
  refine TEo.goS e h q fun t ρ1 v H1 S1 h1 e1 => ?_
  cases h1
  obtain ⟨S2, _, e2⟩ := e1.drop
  exact q σ H1 S2 e2 (Agr.refl _ _)
theorem pms_doc {x j pos pos'} : PMs G W X (.Expr (.Constant (.str x) j pos) pos') as sSkip := ps_mono ps_doc fun D σ H ⟨S, ρ, F, so, e, h, q⟩ => by
  cases h
  exact q σ H S e (Agr.refl _ _)
def sRet (m : M T) : MS := sBind m fun t ρ => some (.rt t ρ)
theorem pms_ret (he : PM G W X e m) : PMs G W X (.Return (some e) pos) as (sRet m) := ps_mono (ps_ret he) fun D σ H ⟨S, ρ, F, so, e, h, q⟩ => by
  refine TEo.goS e h q fun t ρ1 v H1 S1 h1 e1 => ?_
  cases h1
  exact q v σ H1 S1 e1 (Agr.refl _ _)
def sRetN : MS := fun ρ => some (.rt (.fz .non) ρ)
theorem pms_retN : PMs G W X (.Return none pos) as sRetN := ps_mono ps_retN fun D σ H ⟨S, ρ, F, so, e, h, q⟩ => by
  cases h
  exact q .non σ H S (e.add .non) (Agr.refl _ _)
def sIf (t : M Bool) (m n : MS) : MS := sBind t fun b => match b with
  | true => m
  | false => n
theorem pms_if {t : M Bool} {bt bf : List Stmt} (hc : PMt G W X c t) (ha : PMb G W X bt as ms) (hb : PMb G W X bf as ns) : PMs G W X (.If c bt bf pos) as (sIf t ms ns) := ps_mono (ps_if hc ha hb) fun D σ H ⟨S, ρ, F, so, e, h, q⟩ => by
  refine TTo.goS e h q fun b ρ1 H1 S1 h1 e1 => ?_
  cases b with
  | true => rw [if_pos rfl]; exact ⟨S1, ρ1, F, so, e1, h1, q⟩
  | false => rw [if_neg Bool.false_ne_true]; exact ⟨S1, ρ1, F, so, e1, h1, q⟩
/-! ### for -/
/-- what a turn of a loop gives -/
inductive TO' where | go (ρ : Env) | out (ρ : Env) | end (so : SO)
def SO.turn : SO → TO'
  | .nx ρ => .go ρ
  | .ct ρ => .go ρ
  | .bk ρ => .out ρ
  | so => .end so
def loopF (bd : α → Env → Option Env) (body : MS) : List α → MS
  | [], ρ => some (.nx ρ)
  | x :: xs, ρ => (bd x ρ).bind fun ρ1 => (body ρ1).bind fun so => match so.turn with
    | .go ρ2 => loopF bd body xs ρ2
    | .out ρ2 => some (.nx ρ2)
    | .end s => some s
def sFor (it : M (List α)) (bd : α → Env → Option Env) (body : MS) : MS := sBind it fun xs => loopF bd body xs
theorem pms_for {iter : Expr} {body : List Stmt} {it : M (List α)} {bd : α → Env → Option Env} {vs : List Nat} (hp : PassesOwn (model X.prog X.w) X.A X.env X.xe) (hc : X.calm = true) (hi : PMi G W X IR tg iter it) (hg : PMg G X IR tg bd vs) (hb : PMb G W X body as ms) (sub : ∀ i ∈ vs, i ∈ as)
    (hs : ∀ x, foldedSetIterable iter X.env x = pure x := by intro _; rfl) : PMs G W X (.For tg iter body [] pos) as (sFor it bd ms) := ps_mono (ps_for hp hc hi hg hb hs) fun D σ H ⟨S, ρ, F, so, e, h, q⟩ => by
  unfold sFor sBind at h
  cases z : it ρ with
  | none => rw [z] at h; cases h
  | some r =>
    rw [z] at h
    refine ⟨S, ρ, F, r, e, z, ?_⟩
    cases r with
    | ex x ρ1 => exact q.hx (Option.some.inj h).symm
    | ok xs ρ1 =>
      intro J H1 S1 hs e1 jok
      refine ⟨fun i mm σ' H' => mm = xs.length - i ∧ Agr as σ σ' ∧ ∃ S ρx, En G H' S σ' ρx (hs ++ F) ∧ loopF bd ms (xs.drop i) ρx = some so, ⟨xs.length, rfl, Agr.refl _ _, S1, ρ1, e1, h⟩, ?_⟩
      rintro i mm σ2 H2 ⟨rfl, a2, S2, ρx, e2, l2⟩
      have r2 : Rt G H2 S2 (hs ++ (σ2.zip ρx ++ F)) := e2.rt.perm (List.perm_append_comm_assoc _ _ _)
      by_cases hlt : i < xs.length
      · refine .inr ⟨jok.go H2 S2 _ i r2 hlt, fun σ' H' => Agr as σ σ' ∧ ∃ S ρx, En G H' S σ' ρx (hs ++ F) ∧ loopF bd ms (xs.drop (i + 1)) ρx = some so, fun σ' H' hN => ⟨xs.length - (i + 1), by omega, rfl, hN⟩, fun x H' y => ?_⟩
        obtain ⟨xx, hxx, k5, ir⟩ := jok.yld H2 S2 _ i x H' r2 hlt y
        have e5 := e2.same k5
        have dr : xs.drop i = xx :: xs.drop (i + 1) := by
          rw [List.drop_eq_getElem_cons hlt]
          rw [List.getElem?_eq_getElem hlt] at hxx
          rw [Option.some.inj hxx]
        rw [dr] at l2
        unfold loopF at l2
        cases z3 : bd xx ρx with
        | none => rw [z3] at l2; cases l2
        | some ρ5 =>
          rw [z3] at l2
          dsimp only [Option.bind] at l2
          refine ⟨S2, ρx, _, xx, ρ5, e5, ir, z3, fun σ6 H6 S6 u6 e6 a6 => ?_⟩
          have a7 : Agr as σ σ6 := a2.trans (a6.sub sub)
          cases z4 : ms ρ5 with
          | none => rw [z4] at l2; cases l2
          | some s4 =>
            rw [z4] at l2
            refine ⟨S6, ρ5, _, s4, e6, z4, ?_⟩
            have dropH : ∀ {σ8 H8 S8 ρ8}, En G H8 S8 σ8 ρ8 (hs ++ F) → ∃ S', En G H8 S' σ8 ρ8 F := fun e8 => by
              obtain ⟨S', _, e9⟩ := En.drops (L := hs) (F' := F) e8 rfl
              exact ⟨S', e9⟩
            cases s4 with
            | nx ρ8 => exact fun σ8 H8 S8 e8 a8 => ⟨a7.trans a8, S8, ρ8, e8, l2⟩
            | ct ρ8 => exact fun σ8 H8 S8 e8 a8 => ⟨a7.trans a8, S8, ρ8, e8, l2⟩
            | bk ρ8 =>
              cases l2
              intro σ8 H8 S8 e8 a8
              obtain ⟨S9, e9⟩ := dropH e8
              exact q σ8 H8 S9 e9 (a7.trans a8)
            | rt t ρ8 =>
              cases l2
              intro v σ8 H8 S8 e8 a8
              obtain ⟨S9, _, e9⟩ := En.drops (L := hs) (F' := (some v, t) :: F) (e8.frame List.perm_middle.symm) rfl
              exact q v σ8 H8 S9 e9 (a7.trans a8)
            | ex x ρ8 =>
              cases l2
              exact fun σ8 a8 => (q σ8 (a7.trans a8)).monos hs
      · refine .inl ⟨jok.stop H2 S2 _ i r2 (by omega), ?_⟩
        rw [List.drop_eq_nil_of_le (by omega)] at l2
        cases l2
        obtain ⟨S3, _, e3⟩ := En.drops (L := hs) (F' := F) e2 rfl
        exact q σ2 H2 S3 e3 a2
end
end Rx

namespace Rx
open PySem PySem.Spec PyProof.Rows L2 RZ PySem.W
open Lc (Tp AS And1 ButS Lv minL maxL)
section
variable {G : Gx} {W : WX} {X : Cx} {a b c e tg : Expr} {es rest : List Expr} {st : Stmt} {sts : List Stmt} {m n : M T} {ms ns : MS} {as bs : List Nat} {p q : Opd} {pos : Pos} {σ : L2.St} {H : Hp} {S : AS} {ρ : Env} {F : Rl} {α β : Type} {IR : IRel α}
/-! ### while: at most so many turns -/
def loopW (t : M Bool) (body : MS) : Nat → MS
  | 0, _ => none
  | k + 1, ρ => match t ρ with
    | some (.ok true ρ1) => (body ρ1).bind fun so => match so.turn with
      | .go ρ2 => loopW t body k ρ2
      | .out ρ2 => some (.nx ρ2)
      | .end s => some s
    | some (.ok false ρ1) => some (.nx ρ1)
    | some (.ex x ρ1) => some (.ex x ρ1)
    | none => none
theorem pms_while (k : Nat) {body : List Stmt} {t : M Bool} (hp : PassesOwn (model X.prog X.w) X.A X.env X.xe) (hc : PMt G W X c t) (hb : PMb G W X body as ms) : PMs G W X (.While c body [] pos) as (loopW t ms k) := ps_mono (ps_while hp hc hb) fun D σ H ⟨S, ρ, F, so, e, h, q⟩ => by
  refine ⟨fun mm σ' H' => Agr as σ σ' ∧ ∃ S ρx, En G H' S σ' ρx F ∧ loopW t ms mm ρx = some so, ⟨k, Agr.refl _ _, S, ρ, e, h⟩, ?_⟩
  rintro mm σ2 H2 ⟨a2, S2, ρx, e2, l2⟩
  cases mm with
  | zero => cases l2
  | succ mm =>
    unfold loopW at l2
    cases z : t ρx with
    | none => rw [z] at l2; cases l2
    | some r =>
      rw [z] at l2
      refine ⟨S2, ρx, F, r, e2, z, ?_⟩
      cases r with
      | ex x ρ1 => cases l2; exact q σ2 a2
      | ok bb ρ1 =>
        intro H3 S3 e3
        cases bb with
        | false =>
          cases l2
          rw [if_neg Bool.false_ne_true]
          exact q σ2 H3 S3 e3 a2
        | true =>
          rw [if_pos rfl]
          dsimp only at l2
          cases z4 : ms ρ1 with
          | none => rw [z4] at l2; cases l2
          | some s4 =>
            rw [z4] at l2
            refine ⟨fun σ' H' => Agr as σ σ' ∧ ∃ S ρx, En G H' S σ' ρx F ∧ loopW t ms mm ρx = some so, fun σ' H' hN => ⟨mm, Nat.lt_succ_self _, hN⟩, S3, ρ1, F, s4, e3, z4, ?_⟩
            cases s4 with
            | nx ρ8 => exact fun σ8 H8 S8 e8 a8 => ⟨a2.trans a8, S8, ρ8, e8, l2⟩
            | ct ρ8 => exact fun σ8 H8 S8 e8 a8 => ⟨a2.trans a8, S8, ρ8, e8, l2⟩
            | bk ρ8 => cases l2; exact fun σ8 H8 S8 e8 a8 => q σ8 H8 S8 e8 (a2.trans a8)
            | rt t ρ8 => cases l2; exact fun v σ8 H8 S8 e8 a8 => q v σ8 H8 S8 e8 (a2.trans a8)
            | ex x ρ8 => cases l2; exact fun σ8 a8 => q σ8 (a2.trans a8)
/-! ### lists of one's own change -/
/-- slot i is a list of one's own -/
theorem En.own {i : Nat} {ds : List D} (e : En G H S σ ρ F) (h : ρ[i]? = some (.ol ds)) : ∃ a vs, σ[i]? = some (some (.ref a)) ∧ H a = some (.lst vs) ∧ Ocs G H S vs ds := by
  obtain ⟨v, hv, p⟩ := e.at h
  obtain ⟨a, vs, rfl, _, ha, oc⟩ := (e.rt.perm p).ol_inv
  exact ⟨a, vs, hv, ha, oc⟩
theorem En.putOwn {i : Nat} {a : Addr} {vs ws : List V} {ds ds' : List D} (e : En G H S σ ρ F) (h : ρ[i]? = some (.ol ds)) (hv : σ[i]? = some (some (.ref a))) (oc : Ocs G H S ws ds') : En G (upd H a (.lst ws)) S σ (ρ.set i (.ol ds')) F := by
  obtain ⟨v, hv', p⟩ := e.at h
  rw [hv] at hv'; cases hv'
  have hi : i < ρ.length := (List.getElem?_eq_some_iff.mp h).1
  exact e.backS hi hv _ ((e.rt.perm p).putL oc)
def isOl (i : Nat) (ρ : Env) : Bool := match ρ[i]? with
  | some (.ol _) => true
  | _ => false
def sApp (i : Nat) (m : M T) : MS := fun ρ => if isOl i ρ then sBind (mD m) (fun d ρ' => match ρ'[i]? with
    | some (.ol ds) => if ds.length < sizeLine then some (.nx (ρ'.set i (.ol (ds ++ [d])))) else none
    | _ => none) ρ else none
theorem isOl_inv {i : Nat} (h : isOl i ρ = true) : ∃ ds, ρ[i]? = some (.ol ds) := by
  unfold isOl at h
  split at h
  · next ds e => exact ⟨ds, e⟩
  · cases h
theorem pms_app (i : Nat) {K : PySem.W.Frag} (he : PE X e (tBM K "list" rAppend (tVar i) (tCons (TEo G W m) tNil))) (hs : swapsWith e none pos.line X.env = pure false := by rfl) : PMs G W X (.Expr e pos) as (sApp i m) :=
  ps_mono (ps_expr he hs) fun D σ H ⟨S, ρ, F, so, e, h, q⟩ => by
  unfold sApp at h
  split at h
  case isFalse => cases h
  next hi =>
  obtain ⟨ds0, hi0⟩ := isOl_inv hi
  obtain ⟨a, vs, hv, ha, oc⟩ := e.own hi0
  refine ⟨.ref a, hv, .inl ⟨rfl, _, .inl (.inl ha)⟩, ?_⟩
  refine TEo.goSD e h q fun d ρ1 v H1 S1 h1 e1 => ?_
  split at h1
  · next ds hds =>
    split at h1
    · next hsz =>
      cases h1
      obtain ⟨S2, u2, e2⟩ := e1.drop
      obtain ⟨a', vs', hv', ha', oc'⟩ := e2.own hds
      rw [hv] at hv'; cases hv'
      refine ⟨a, vs', v, rfl, rfl, ha', by rw [oc'.len]; exact hsz, ?_⟩
      exact q σ _ S2 (e2.putOwn (vs := vs') hds hv (oc'.append (.cons (e1.fz.up u2) .nil))) (Agr.refl _ _)
    · cases h1
  · cases h1
def sExt (i : Nat) (m : M T) : MS := fun ρ => if isOl i ρ then sBind (mD m) (fun d ρ' => match ρ'[i]?, d with
    | some (.ol ds), .lst es => if ds.length + es.length ≤ sizeLine then some (.nx (ρ'.set i (.ol (ds ++ es)))) else none
    | _, _ => none) ρ else none
theorem pms_ext (i : Nat) {K : PySem.W.Frag} (he : PE X e (tBM K "list" rExtend (tVar i) (tCons (TEo G W m) tNil))) (hs : swapsWith e none pos.line X.env = pure false := by rfl) : PMs G W X (.Expr e pos) as (sExt i m) :=
  ps_mono (ps_expr he hs) fun D σ H ⟨S, ρ, F, so, e, h, q⟩ => by
  unfold sExt at h
  split at h
  case isFalse => cases h
  next hi =>
  obtain ⟨ds0, hi0⟩ := isOl_inv hi
  obtain ⟨a, vs, hv, ha, oc⟩ := e.own hi0
  refine ⟨.ref a, hv, .inl ⟨rfl, _, .inl (.inl ha)⟩, ?_⟩
  refine TEo.goSD e h q fun d ρ1 v H1 S1 h1 e1 => ?_
  split at h1
  · next ds es hds =>
    split at h1
    · next hsz =>
      cases h1
      obtain ⟨S2, u2, e2⟩ := e1.drop
      obtain ⟨a', vs', hv', ha', oc'⟩ := e2.own hds
      rw [hv] at hv'; cases hv'
      obtain ⟨b, ws, rfl, hb, _, ob⟩ := (e1.fz.up u2).lst_inv
      refine ⟨a, b, vs', ws, rfl, rfl, ha', hb, by rw [oc'.len, ob.len]; exact hsz, ?_⟩
      exact q σ _ S2 (e2.putOwn (vs := vs') hds hv (oc'.append ob)) (Agr.refl _ _)
    · cases h1
  · cases h1
/-- x[n] = m -/
def sPut (i : Nat) (n m : M T) : MS := sBind (mD m) fun d ρ => if isOl i ρ then sBind (mD n) (fun k ρ' => match ρ'[i]?, k with
    | some (.ol ds), .int j => match ixN ds.length j with
      | some jj => some (.nx (ρ'.set i (.ol (ds.set jj d))))
      | none => none
    | _, _ => none) ρ else none
theorem pms_put (i : Nat) (he : PS X st (tAsg (TEo G W m) (L2.gSub (tVar i) (TEo G W n) rSetL))) : PMs G W X st as (sPut i n m) :=
  ps_mono he fun D σ H ⟨S, ρ, F, so, e, h, q⟩ => by
  refine TEo.goSD e h q fun d ρ1 v H1 S1 h1 e1 => ?_
  split at h1
  case isFalse => cases h1
  next hi =>
  obtain ⟨ds0, hi0⟩ := isOl_inv hi
  obtain ⟨a, vs, hv, ha, oc⟩ := e1.own hi0
  refine ⟨.ref a, hv, ?_⟩
  unfold sBind at h1
  cases z : mD n ρ1 with
  | none => rw [z] at h1; cases h1
  | some r =>
    rw [z] at h1
    cases r with
    | ex x ρ2 =>
      have hx : ExF G W σ ((some v, .fz d) :: F) x ρ2 := (q.hx (Option.some.inj h1).symm).mono
      refine ⟨S1, ρ1, _, .ex x ρ2, e1, ?_, hx⟩
      unfold mD M.bind M.opt at z
      cases z2 : n ρ1 with
      | none => rw [z2] at z; cases z
      | some o =>
        rw [z2] at z
        cases o with
        | ex x2 ρ2 => cases z; rfl
        | ok t ρ2 =>
          dsimp only at z
          cases z3 : t.fr with
          | none => rw [z3] at z; cases z
          | some d => rw [z3] at z; cases z
    | ok k ρ2 =>
      obtain ⟨tk, htk, hfk⟩ := mD_ok z
      refine ⟨S1, ρ1, _, .ok tk ρ2, e1, htk, fun iv H2 S2 e2 => ?_⟩
      obtain ⟨S3, u3, e3⟩ := e2.frz hfk
      dsimp only at h1
      split at h1
      · next ds j hds =>
        split at h1
        · next jj hj =>
          cases h1
          have oi := e3.fz.int_inv
          subst oi
          obtain ⟨S4, u4, e4⟩ := e3.drop
          obtain ⟨S5, u5, e5⟩ := e4.drop
          obtain ⟨a', vs', hv', ha', oc'⟩ := e5.own hds
          rw [hv] at hv'; cases hv'
          refine ⟨a, vs', j, jj, rfl, rfl, ha', by rw [oc'.len]; exact hj, ?_⟩
          exact q σ _ S5 (e5.putOwn (vs := vs') hds hv (oc'.set jj (e4.fz.up u5))) (Agr.refl _ _)
        · cases h1
      · cases h1
/-! ### a def -/
def outsF (as : List Nat) : Nat → Nat → Env → List T
  | _, 0, _ => []
  | i, n + 1, t :: ρ => (if i ∈ as then .no else t) :: outsF as (i + 1) n ρ
  | _, _ + 1, [] => []
/-- np parameters, nl further slots, as: the slots that are stored -/
def fnOf (np nl : Nat) (as : List Nat) (body : MS) : Fn := fun ts => if ts.length = np then
    match body (ts ++ List.replicate nl .no) with
    | some (.rt t ρ) => some (.ok t (outsF as 0 np ρ))
    | some (.nx ρ) => some (.ok (.fz .non) (outsF as 0 np ρ))
    | some (.ex x ρ) => some (.ex x (outsF as 0 np ρ))
    | _ => none
  else none
theorem outs_rt : ∀ {vs : List V} {i : Nat} {σ : L2.St} {ρ : Env} {S : AS} {L : Rl}, Rt G H S (σ.zip ρ ++ L) → (∀ j v, vs[j]? = some v → i + j ∉ as → σ[j]? = some (some v)) → ∃ S', Up H S H S' ∧ Rt G H S' (rts vs (outsF as i vs.length ρ) ++ L)
  | [], i, σ, ρ, S, L, r, h => by
    have : ∀ {M : Rl} {S : AS}, Rt G H S (M ++ L) → ∃ S', Up H S H S' ∧ Rt G H S' L := fun {M} => by
      induction M with
      | nil => exact fun {S} r => ⟨S, Up.refl _ _, r⟩
      | cons x M ih =>
        intro S r
        obtain ⟨S1, u1, r1⟩ := Rt.drop r
        obtain ⟨S2, u2, r2⟩ := ih r1
        exact ⟨S2, u1.trans u2, r2⟩
    exact this r
  | v :: vs, i, σ, [], S, L, r, h => by
    rw [List.zip_nil_right] at r
    have : rts (v :: vs) (outsF as i (v :: vs).length []) = [] := by unfold rts outsF; exact List.zip_nil_right
    rw [this]
    exact ⟨S, Up.refl _ _, r⟩
  | v :: vs, i, [], t :: ρ, S, L, r, h => by
    rw [List.zip_nil_left] at r
    -- nothing is known of the slots: all parameters are stored
    have : ∀ (vs : List V) (ts : List T), (∀ t ∈ ts, t = T.no) → ∀ {S : AS}, Rt G H S L → Rt G H S (rts vs ts ++ L) := by
      intro vs
      induction vs with
      | nil => intro ts _ S r; exact r
      | cons v vs ih =>
        intro ts ht S r
        cases ts with
        | nil => exact r
        | cons t ts =>
          have e := ht t List.mem_cons_self
          subst e
          exact (ih ts (fun t h => ht t (List.mem_cons_of_mem _ h)) r).addNo (some v)
    refine ⟨S, Up.refl _ _, this _ _ ?_ r⟩
    have key : ∀ (n i : Nat) (ρ : Env), (∀ j, j < n → i + j ∈ as) → ∀ t ∈ outsF as i n ρ, t = T.no := by
      intro n
      induction n with
      | zero => intro i ρ _ t ht; cases ρ <;> cases ht
      | succ n ih =>
        intro i ρ hj t ht
        cases ρ with
        | nil => cases ht
        | cons u ρ =>
          rcases List.mem_cons.mp ht with e | ht
          · rw [e, if_pos (by have := hj 0 (Nat.succ_pos _); simpa using this)]
          · exact ih (i + 1) ρ (fun j hjn => by have := hj (j + 1) (Nat.succ_lt_succ hjn); rwa [Nat.add_assoc, Nat.add_comm 1 j]) t ht
    refine key _ _ _ fun j hj => ?_
    by_cases hm : i + j ∈ as
    · exact hm
    · have := h j _ (List.getElem?_eq_getElem hj) hm
      simp at this
  | v :: vs, i, s :: σ, t :: ρ, S, L, r, h => by
    have hr : ∀ j w, vs[j]? = some w → i + 1 + j ∉ as → σ[j]? = some (some w) := fun j w hw hm => by
      have := h (j + 1) w (by simpa using hw) (by rwa [Nat.add_assoc, Nat.add_comm 1 j] at hm)
      simpa using this
    by_cases hm : i ∈ as
    · obtain ⟨S1, u1, r1⟩ := Rt.drop (x := (s, t)) r
      obtain ⟨S2, u2, r2⟩ := outs_rt r1 hr
      refine ⟨S2, u1.trans u2, ?_⟩
      have e : rts (v :: vs) (outsF as i (v :: vs).length (t :: ρ)) = (some v, T.no) :: rts vs (outsF as (i + 1) vs.length ρ) := by
        unfold rts
        show List.zip (some v :: vs.map some) (outsF as i (vs.length + 1) (t :: ρ)) = _
        rw [outsF, if_pos hm]; rfl
      rw [e]
      exact r2.addNo _
    · have hs : s = some v := by
        have := h 0 v rfl hm
        simpa using this
      subst hs
      obtain ⟨S2, u2, r2⟩ := outs_rt (L := (some v, t) :: L) (r.perm List.perm_middle.symm) hr
      refine ⟨S2, u2, ?_⟩
      have e : rts (v :: vs) (outsF as i (v :: vs).length (t :: ρ)) = (some v, t) :: rts vs (outsF as (i + 1) vs.length ρ) := by
        unfold rts
        show List.zip (some v :: vs.map some) (outsF as i (vs.length + 1) (t :: ρ)) = _
        rw [outsF, if_neg hm]; rfl
      rw [e]
      exact r2.perm List.perm_middle
theorem rts_start (vs : List V) (ts : List T) (n : Nat) (l : vs.length = ts.length) : (vs.map some ++ List.replicate n none).zip (ts ++ List.replicate n T.no) = rts vs ts ++ List.replicate n (none, T.no) := by
  rw [List.zip_append (by simp [l])]
  congr 1
  induction n with
  | zero => rfl
  | succ n ih => rw [List.replicate_succ, List.replicate_succ, List.zip_cons_cons, ih]; rfl
theorem Rt.addNos (n : Nat) {L : Rl} (r : Rt G H S L) : Rt G H S (List.replicate n (none, T.no) ++ L) := by
  induction n with
  | zero => exact r
  | succ n ih => exact ih.addNo none
theorem fn_start {vs : List V} {ts : List T} {N : List Str} {n : Nat} (r : Rt G H S (rts vs ts ++ F)) (l : vs.length = ts.length) (hn : N.length - vs.length = n) : En G H S (L2.start N vs) (ts ++ List.replicate n .no) F := by
  subst hn
  refine ⟨by unfold L2.start; simp [l], ?_⟩
  unfold L2.start
  rw [rts_start vs ts _ l, List.append_assoc]
  exact (r.addNos _).perm (List.perm_append_comm_assoc _ _ _)
/-- THE RULE for a def: its body as a term, and what it promises -/
theorem fn_ok {P : Program} {w : World} {K : PySem.W.Frag} {mg : Str → Option Value} {base : Heap} {x qual : Str} {st : Stmt} {f : Addr} {fd : FuncData} {N ps : List Str} {k np nl : Nat} {as : List Nat} {body : MS} {g : Fn} (Fu : Fun K x qual st f fd) (Sc : FnScope N ps (defScope st)) (hg : g = fnOf np nl as body) (hp : ps.length = np) (hl : N.length = np + nl)
    (hbody : ∀ (cdv : Value) (A : Around) (outer : List PySem.Env) (s : Shared) (H : Hp) (E : XK), Room k (A.deeper (envOfC qual (defScope st) s.heap.objs.size f cdv)) →
      PMb G (fun cls d _ H => E cls d H) (cxOf (L2.CX P w) P w K mg base N qual (defScope st) f cdv A outer s H E) (defBody st) as body) : FnOk P w K mg base (L2.CX P w) (k + 1) f fd ps (spOf G g) := by
  subst hg
  refine Fu.okX Sc (fun vs H Q E ⟨S, ts, F, fo, l, r, h, q⟩ => ?_) fun cdv A outer s H vs Q E hr ⟨S, ts, F, fo, l, r, h, q⟩ => ⟨_, hbody cdv A outer s H E hr, ?_⟩
  · unfold fnOf at h
    split at h
    · next ht => rw [l, ht, hp]
    · cases h
  · unfold fnOf at h
    split at h
    case isFalse => cases h
    next ht =>
    have lv : vs.length = np := l.trans ht
    have en := fn_start (N := N) r l (n := nl) (by rw [hl, lv]; omega)
    have hst : ∀ j v, vs[j]? = some v → (L2.start N vs)[j]? = some (some v) := fun j v hj => by
      unfold L2.start
      rw [List.getElem?_append_left (by rw [List.length_map]; exact (List.getElem?_eq_some_iff.mp hj).1), List.getElem?_map, hj]; rfl
    have fin : ∀ {σ' : L2.St} {H' : Hp} {S' : AS} {ρ' : Env} {L : Rl}, En G H' S' σ' ρ' L → Agr as (L2.start N vs) σ' → ∃ S2, Up H' S' H' S2 ∧ Rt G H' S2 (rts vs (outsF as 0 np ρ') ++ L) := fun {σ' H' S' ρ' L} e a => by
      have := outs_rt (as := as) (vs := vs) (i := 0) e.rt fun j v hj hm => by
        rw [a.2 j (by simpa using hm)]
        exact hst j v hj
      rwa [lv] at this
    cases z : body (ts ++ List.replicate nl T.no) with
    | none => rw [z] at h; cases h
    | some so =>
      rw [z] at h
      refine ⟨S, _, F, so, en, z, ?_⟩
      cases so with
      | nx ρ =>
        cases h
        intro σ' H' S' e a
        obtain ⟨S2, u2, r2⟩ := fin e a
        exact q .non H' S2 (r2.add .non)
      | rt t ρ =>
        cases h
        intro v σ' H' S' e a
        obtain ⟨S2, u2, r2⟩ := fin e a
        exact q v H' S2 (r2.perm List.perm_middle)
      | bk ρ => cases h
      | ct ρ => cases h
      | ex x ρ =>
        cases h
        intro σ' a cls d H' S' ax e
        obtain ⟨S2, u2, r2⟩ := fin e a
        exact q cls d H' S2 (ax.up u2) r2
end
end Rx

namespace Rx
open PySem PySem.Spec PyProof.Rows L2 RZ PySem.W
open Lc (Tp AS And1 ButS Lv minL maxL)
section
variable {G : Gx} {W : WX} {X : Cx} {a b c e e2 tg : Expr} {es rest : List Expr} {st : Stmt} {sts : List Stmt} {m n : M T} {ms ns : MS} {as bs : List Nat} {p q : Opd} {pos : Pos} {σ : L2.St} {H : Hp} {S : AS} {ρ : Env} {F : Rl} {α β : Type} {IR : IRel α}
/-! ### enumerate, zip -/
theorem pi_or {w1 w2 : TI} (h1 : PI X tg e w1) (h2 : PI X tg e w2) : PI X tg e (fun σ H R => w1 σ H R ∨ w2 σ H R) := ⟨fun pins s σ H R I h => h.elim (h1.run pins s σ H R I) (h2.run pins s σ H R I)⟩
theorem TEo.goE {f : D → M β} {o : O β} {K : VK} (e : En G H S σ ρ F) (hm : (mD m).bind f ρ = some o) (hx : ∀ x ρ', o = .ex x ρ' → ExF G W σ F x ρ')
    (k : ∀ d ρ1 v H1 S1, mD m ρ = some (.ok d ρ1) → f d ρ1 = some o → En G H1 S1 σ ρ1 ((some v, .fz d) :: F) → K v H1) : TEo G W m σ H K := by
  unfold M.bind at hm
  cases z : mD m ρ with
  | none => rw [z] at hm; cases hm
  | some r =>
    rw [z] at hm
    cases r with
    | ok d ρ1 =>
      obtain ⟨t, ht, hf⟩ := mD_ok z
      refine ⟨S, ρ, F, .ok t ρ1, e, ht, fun v H1 S1 e1 => ?_⟩
      obtain ⟨S2, _, e2⟩ := e1.frz hf
      exact k d ρ1 v H1 S2 z hm e2
    | ex x ρ1 =>
      refine ⟨S, ρ, F, .ex x ρ1, e, ?_, hx x ρ1 (Option.some.inj hm).symm⟩
      unfold mD M.bind M.opt at z
      cases z2 : m ρ with
      | none => rw [z2] at z; cases z
      | some o =>
        rw [z2] at z
        cases o with
        | ex x2 ρ2 => cases z; rfl
        | ok t ρ2 =>
          dsimp only at z
          cases z3 : t.fr with
          | none => rw [z3] at z; cases z
          | some d => rw [z3] at z; cases z
def enumD (xs : List D) : List (List D) := xs.zipIdx.map fun q => [.int (q.2 : Nat), q.1]
def iEn (m : M T) : M (List (List D)) := (mD m).bind fun d => M.opt (d.items.map enumD)
theorem enumD_get {xs : List D} {i : Nat} {d : D} (h : xs[i]? = some d) : (enumD xs)[i]? = some [.int (i : Nat), d] := by
  unfold enumD
  rw [List.getElem?_map, List.getElem?_zipIdx, h]
  simp
theorem enumD_len (xs : List D) : (enumD xs).length = xs.length := by unfold enumD; rw [List.length_map, List.length_zipIdx]
theorem ok_enL {a : Addr} {xs : List D} : IOk G (irP G) (Ite G.K a) [(some (.ref a), .fz (.lst xs))] (enumD xs) where
  go := fun H S L i r hi => by
    rw [enumD_len] at hi
    obtain ⟨a', vs, e, h1, h2⟩ := r.fz.lst2
    cases e
    obtain ⟨v, hv, _⟩ := h2.get (List.getElem?_eq_getElem hi)
    exact ⟨vs, v, h1, hv⟩
  stop := fun H S L i r hi => by
    rw [enumD_len] at hi
    obtain ⟨a', vs, e, h1, h2⟩ := r.fz.lst2
    cases e
    exact ⟨vs, h1, by rw [h2.len]; exact hi⟩
  yld := fun H S L i v H' r hi y => by
    obtain ⟨a', vs, e, h1, h2⟩ := r.fz.lst2
    cases e
    obtain ⟨t, x, rfl, ht, rfl, y⟩ := y
    obtain ⟨d, hd, o⟩ := h2.at (y vs h1)
    exact ⟨_, enumD_get hd, Same.upd ht, t, _, rfl, .inl (.inl upd_same), .cons (.int _) (.cons (o.up (Up.same (Same.upd ht))) .nil)⟩
theorem ok_enT {a : Addr} {xs : List D} : IOk G (irP G) (Lc.IteT G.K a) [(some (.ref a), .fz (.tup xs))] (enumD xs) where
  go := fun H S L i r hi => by
    rw [enumD_len] at hi
    obtain ⟨a', vs, e, h1, h2⟩ := r.fz.tup_inv
    cases e
    obtain ⟨v, hv, _⟩ := h2.get (List.getElem?_eq_getElem hi)
    exact ⟨vs, v, h1, hv⟩
  stop := fun H S L i r hi => by
    rw [enumD_len] at hi
    obtain ⟨a', vs, e, h1, h2⟩ := r.fz.tup_inv
    cases e
    exact ⟨vs, h1, by rw [h2.len]; exact hi⟩
  yld := fun H S L i v H' r hi y => by
    obtain ⟨a', vs, e, h1, h2⟩ := r.fz.tup_inv
    cases e
    obtain ⟨t, x, rfl, ht, rfl, y⟩ := y
    obtain ⟨d, hd, o⟩ := h2.at (y vs h1)
    exact ⟨_, enumD_get hd, Same.upd ht, t, _, rfl, .inl (.inl upd_same), .cons (.int _) (.cons (o.up (Up.same (Same.upd ht))) .nil)⟩
theorem pmi_enum {elts : List Expr} {kk : Nat} {tpos xp : Pos} (hK : X.K = G.K) (hg : Gl X "enumerate") (hm : X.mg "enumerate" = none) (ha : PM G W X e m) (hs : starEach [e] X.env = [(false, eval e X.env)] := by rfl) : PMi G W X (irP G) (.Tuple elts kk tpos) (.Call (.Name "enumerate" xp) [e] [] pos) (iEn m) :=
  pi_mono (pi_or (pi_enum hg hm (pa_cons ha pa_nil (by rw [hs]; rfl)) hs) (Lc.pi_enumT hg hm (pa_cons ha pa_nil (by rw [hs]; rfl)) hs)) fun σ H R ⟨S, ρ, F, o, e, h, q⟩ => by
  rw [hK]
  have run : ∀ (K : List V → Hp → Prop), (∀ d ρ1 v H1 S1, mD m ρ = some (.ok d ρ1) → (M.opt (d.items.map enumD)) ρ1 = some o → En G H1 S1 σ ρ1 ((some v, .fz d) :: F) → K [v] H1) → tCons (TEo G W m) tNil σ H K := fun K k => TEo.goE e h q.hx k
  by_cases hk : ∃ xs ρ1, mD m ρ = some (.ok (.lst xs) ρ1)
  · obtain ⟨xs, ρ1, hk⟩ := hk
    refine .inl (run _ fun d ρ2 v H1 S1 hd h1 e1 => ?_)
    rw [hk] at hd; cases hd
    cases h1
    obtain ⟨a, vs, rfl, sq, _⟩ := e1.fz.lst2
    exact ⟨a, vs, rfl, sq, q _ H1 S1 [(some (.ref a), .fz (.lst xs))] e1 ok_enL⟩
  · refine .inr (run _ fun d ρ2 v H1 S1 hd h1 e1 => ?_)
    cases d with
    | lst xs => exact absurd ⟨_, _, hd⟩ hk
    | tup xs =>
      cases h1
      obtain ⟨a, vs, ev, sq, _⟩ := e1.fz.tup_inv
      subst ev
      exact ⟨a, vs, rfl, sq, q _ H1 S1 [(some (.ref a), .fz (.tup xs))] e1 ok_enT⟩
    | _ => cases h1
def zipD (xs ys : List D) : List (List D) := (xs.zip ys).map fun q => [q.1, q.2]
def iZp (m n : M T) : M (List (List D)) := (mD m).bind fun d => (mD n).bind fun e => M.opt (match d, e with
  | .lst xs, .lst ys => some (zipD xs ys)
  | .tup xs, .tup ys => some (zipD xs ys)
  | _, _ => none)
theorem zipD_len (xs ys : List D) : (zipD xs ys).length = min xs.length ys.length := by unfold zipD; rw [List.length_map, List.length_zip]
theorem zipD_get {xs ys : List D} {i : Nat} {d e : D} (h : xs[i]? = some d) (h2 : ys[i]? = some e) : (zipD xs ys)[i]? = some [d, e] := by
  unfold zipD
  rw [List.getElem?_map, (List.getElem?_zip_eq_some (z := (d, e))).mpr ⟨h, h2⟩]
  rfl
theorem ok_zipL {a b : Addr} {xs ys : List D} : IOk G (irP G) (Itz G.K a b) [(some (.ref a), .fz (.lst xs)), (some (.ref b), .fz (.lst ys))] (zipD xs ys) where
  go := fun H S L i r hi => by
    rw [zipD_len] at hi
    obtain ⟨a', vs, e, h1, h2⟩ := r.fz.lst2
    cases e
    obtain ⟨b', ws, e, h3, h4⟩ := (Rt.fzm r (d := .lst ys) (u := .ref b) (by simp)).lst2
    cases e
    obtain ⟨v, hv, _⟩ := h2.get (List.getElem?_eq_getElem (by omega : i < xs.length))
    obtain ⟨w, hw, _⟩ := h4.get (List.getElem?_eq_getElem (by omega : i < ys.length))
    exact ⟨vs, ws, v, w, h1, h3, hv, hw⟩
  stop := fun H S L i r hi => by
    rw [zipD_len] at hi
    obtain ⟨a', vs, e, h1, h2⟩ := r.fz.lst2
    cases e
    obtain ⟨b', ws, e, h3, h4⟩ := (Rt.fzm r (d := .lst ys) (u := .ref b) (by simp)).lst2
    cases e
    exact ⟨vs, ws, h1, h3, by rw [h2.len, h4.len]; omega⟩
  yld := fun H S L i v H' r hi y => by
    obtain ⟨a', vs, e, h1, h2⟩ := r.fz.lst2
    cases e
    obtain ⟨b', ws, e, h3, h4⟩ := (Rt.fzm r (d := .lst ys) (u := .ref b) (by simp)).lst2
    cases e
    obtain ⟨t, x, y, rfl, ht, rfl, y1, y2⟩ := y
    obtain ⟨d, hd, o⟩ := h2.at (y1 vs h1)
    obtain ⟨d2, hd2, o2⟩ := h4.at (y2 ws h3)
    exact ⟨_, zipD_get hd hd2, Same.upd ht, t, _, rfl, .inl (.inl upd_same), .cons (o.up (Up.same (Same.upd ht))) (.cons (o2.up (Up.same (Same.upd ht))) .nil)⟩
theorem ok_zipT {a b : Addr} {xs ys : List D} : IOk G (irP G) (ItzT G.K a b) [(some (.ref a), .fz (.tup xs)), (some (.ref b), .fz (.tup ys))] (zipD xs ys) where
  go := fun H S L i r hi => by
    rw [zipD_len] at hi
    obtain ⟨a', vs, e, h1, h2⟩ := r.fz.tup_inv
    cases e
    obtain ⟨b', ws, e, h3, h4⟩ := (Rt.fzm r (d := .tup ys) (u := .ref b) (by simp)).tup_inv
    cases e
    obtain ⟨v, hv, _⟩ := h2.get (List.getElem?_eq_getElem (by omega : i < xs.length))
    obtain ⟨w, hw, _⟩ := h4.get (List.getElem?_eq_getElem (by omega : i < ys.length))
    exact ⟨vs, ws, v, w, h1, h3, hv, hw⟩
  stop := fun H S L i r hi => by
    rw [zipD_len] at hi
    obtain ⟨a', vs, e, h1, h2⟩ := r.fz.tup_inv
    cases e
    obtain ⟨b', ws, e, h3, h4⟩ := (Rt.fzm r (d := .tup ys) (u := .ref b) (by simp)).tup_inv
    cases e
    exact ⟨vs, ws, h1, h3, by rw [h2.len, h4.len]; omega⟩
  yld := fun H S L i v H' r hi y => by
    obtain ⟨a', vs, e, h1, h2⟩ := r.fz.tup_inv
    cases e
    obtain ⟨b', ws, e, h3, h4⟩ := (Rt.fzm r (d := .tup ys) (u := .ref b) (by simp)).tup_inv
    cases e
    obtain ⟨t, x, y, rfl, ht, rfl, y1, y2⟩ := y
    obtain ⟨d, hd, o⟩ := h2.at (y1 vs h1)
    obtain ⟨d2, hd2, o2⟩ := h4.at (y2 ws h3)
    exact ⟨_, zipD_get hd hd2, Same.upd ht, t, _, rfl, .inl (.inl upd_same), .cons (o.up (Up.same (Same.upd ht))) (.cons (o2.up (Up.same (Same.upd ht))) .nil)⟩
theorem pmi_zip {elts : List Expr} {kk : Nat} {tpos xp : Pos} (hK : X.K = G.K) (hg : Gl X "zip") (hm : X.mg "zip" = none) (ha : PM G W X e m) (hb : PM G W X e2 n) (hs : starEach [e, e2] X.env = (false, eval e X.env) :: starEach [e2] X.env := by rfl) (hs2 : starEach [e2] X.env = (false, eval e2 X.env) :: starEach [] X.env := by rfl) (hpl : (backTo pos (starEach [e2] X.env)).any (·.1) = false := by rfl) :
    PMi G W X (irP G) (.Tuple elts kk tpos) (.Call (.Name "zip" xp) [e, e2] [] pos) (iZp m n) :=
  pi_mono (pi_zipA hg hm (pa_cons ha (pa_cons hb pa_nil hs2) hs) hs hpl) fun σ H R ⟨S, ρ, F, o, e, h, q⟩ => by
  rw [hK]
  refine TEo.goD e h q.hx fun d ρ1 v H1 S1 h1 e1 => ?_
  refine TEo.goD e1 h1 (fun x ρ' z => (q.hx x ρ' z).mono) fun d2 ρ2 v2 H2 S2 h2 e2 => ?_
  have e3 := e2.frame (List.Perm.swap (some v, T.fz d) (some v2, T.fz d2) F)
  unfold M.opt at h2
  split at h2
  · next xs z =>
    split at z
    · next xs ys =>
      cases z; cases h2
      obtain ⟨a, vs, rfl, sa, _⟩ := e3.fz.lst2
      obtain ⟨b, ws, rfl, sb, _⟩ := e2.fz.lst2
      exact ⟨a, b, vs, ws, rfl, .inl ⟨sa, sb, q _ H2 S2 [(some (.ref a), .fz (.lst xs)), (some (.ref b), .fz (.lst ys))] e3 ok_zipL⟩⟩
    · next xs ys =>
      cases z; cases h2
      obtain ⟨a, vs, ea, sa, _⟩ := e3.fz.tup_inv
      obtain ⟨b, ws, eb, sb, _⟩ := e2.fz.tup_inv
      subst ea; subst eb
      exact ⟨a, b, vs, ws, rfl, .inr ⟨sa, sb, q _ H2 S2 [(some (.ref a), .fz (.tup xs)), (some (.ref b), .fz (.tup ys))] e3 ok_zipT⟩⟩
    · cases z
  · cases h2
/-! ### a, *r = .. -/
def bStar (k : Nat) (r : List D → Env → Option Env) : D → Env → Option Env := fun d ρ => match d with
  | .tup ds => if k ≤ ds.length then r (ds.take k ++ [.lst (ds.drop k)]) ρ else none
  | _ => none
theorem pmg_star {r : List D → Env → Option Env} {vs : List Nat} {c k : Nat} (hK : X.K = G.K) (hc : X.calm = true) (h : PMgs G X es r vs) (hn : (assignEach es X.env).length = k + 1 := by rfl) (hst : (assignEach es X.env).findIdx? (·.1) = some k := by rfl) : PMg G X (irD G) (.Tuple es c pos) (bStar k r) vs :=
  pg_mono (Lc.pg_star hc h hn hst) fun v σ H Q ⟨S, ρ, F, d, ρ', e, oc, h, q⟩ => by
  cases d with
  | tup ds =>
    unfold bStar at h
    dsimp only at h
    split at h
    · next hl =>
      obtain ⟨a, us, ev, sq, all⟩ := Oc.tup_inv (show Oc G H S v (.tup ds) from oc)
      subst ev
      rw [hK]
      refine ⟨a, us, rfl, sq, by rw [all.len]; exact hl, fun p hp => ?_⟩
      have u : Up H S (upd H p (.lst (us.drop k))) S := Up.same (Same.upd hp)
      have np : ¬ S p := fun z => e.rt.live p z hp
      refine ⟨S, ρ, F, ds.take k ++ [.lst (ds.drop k)], ρ', e.same (Same.upd hp), ((all.take k).up u).append (.cons (.lst upd_same np ((all.drop k).up u)) .nil), h, fun σ' H' S' u' e' a' => ?_⟩
      exact q σ' H' S' (u.trans u') e' a'
    · cases h
  | _ => cases h
end
end Rx

namespace Rx
open PySem PySem.Spec PyProof.Rows L2 RZ PySem.W
open Lc (Tp AS And1 ButS Lv minL maxL)
section
variable {G : Gx} {W : WX} {X : Cx} {a b c e e2 tg : Expr} {es rest : List Expr} {st : Stmt} {sts : List Stmt} {m n : M T} {ms ns' : MS} {as bs : List Nat} {p q : Opd} {pos : Pos} {σ : L2.St} {H : Hp} {S : AS} {ρ : Env} {F : Rl} {α β : Type} {IR : IRel α}
/-! ### an instance of one's own -/
def mFz (m : M T) : M T := (mD m).bind fun d => M.ret (.fz d)
theorem pm_fz (h : PM G W X e m) : PM G W X e (mFz m) := pe_mono h fun σ H Q ⟨S, ρ, F, o, e, h, q⟩ => by
  refine TEo.goD e h q.hx fun d ρ1 v H1 S1 h1 e1 => ?_
  cases h1
  exact q v H1 S1 e1
theorem putF_new {f : Str} {y : V} : ∀ {ns : List Str} {vs : List V}, f ∉ ns → ns.length = vs.length → putF f y (ns.zip vs) = (ns ++ [f]).zip (vs ++ [y])
  | [], [], _, _ => rfl
  | [], _ :: _, _, l => by simp at l
  | _ :: _, [], _, l => by simp at l
  | n :: ns, v :: vs, h, l => by
    rw [List.zip_cons_cons, putF, if_neg (fun z => h (by rw [z]; exact List.mem_cons_self)), putF_new (fun z => h (List.mem_cons_of_mem _ z)) (by simpa using l)]
    rfl
theorem Ows.snoc {v : V} {t : T} : ∀ {vs : List V} {ts : List T} {A B : List Addr}, Ows G H S vs ts A → Ow G H S (some v) t B → Ows G H S (vs ++ [v]) (ts ++ [t]) (A ++ B)
  | _, _, _, B, .nil, h => by
    have := Ows.cons h (Ows.nil (G := G) (H := H) (S := S))
    rw [List.append_nil] at this
    exact this
  | _, _, _, B, .cons h r, h2 => by
    have := Ows.cons h (Ows.snoc r h2)
    rw [← List.append_assoc] at this
    exact this
theorem Ows.len : ∀ {vs : List V} {ts : List T} {A : List Addr}, Ows G H S vs ts A → vs.length = ts.length
  | _, _, _, .nil => rfl
  | _, _, _, .cons _ r => congrArg Nat.succ (Ows.len r)
/-- a field comes in -/
theorem Rt.field {aa : Addr} {c : Nat} {ns : List Str} {ts : List T} {f : Str} {v : V} {t : T} {L : Rl} (r : Rt G H S ((some (.ref aa), .oi c ns ts) :: (some v, t) :: L)) (hf : f ∉ ns) :
    ∃ dx vs, H aa = some (.ins (G.cl c) dx (ns.zip vs)) ∧ ns.length = vs.length ∧ ts.length = vs.length ∧ Rt G (upd H aa (.ins (G.cl c) dx (putF f v (ns.zip vs)))) S ((some (.ref aa), .oi c (ns ++ [f]) (ts ++ [t])) :: L) := by
  obtain ⟨A, M, h, nd, hs, ow, all⟩ := r.open
  -- the second root
  have hm : (some v, t) ∈ rtM M := h.subset List.mem_cons_self
  obtain ⟨m, mm, em⟩ := List.mem_map.mp hm
  obtain ⟨s, r', rfl⟩ := List.append_of_mem mm
  obtain ⟨mv, mt, mA⟩ := m
  cases em
  have pf : (fpM (s ++ (some v, mt, mA) :: r')).Perm (mA ++ fpM (s ++ r')) := by
    unfold fpM
    rw [List.flatMap_append, List.flatMap_append, List.flatMap_cons]
    exact List.perm_append_comm_assoc _ _ _
  have hp : L.Perm (rtM (s ++ r')) := by
    refine (h.trans ?_).cons_inv (a := (some v, mt))
    unfold rtM
    rw [List.map_append, List.map_append, List.map_cons]
    exact List.perm_middle
  have ot := all _ mm
  cases ow with
  | @oi a dx c ns vs ts A e l oo =>
    have hS : S aa := (hs aa).mpr (List.mem_append_left _ List.mem_cons_self)
    have k : Up H S (upd H aa (.ins (G.cl c) dx (putF f v (ns.zip vs)))) S := Up.put hS
    have nd2 : ((aa :: A) ++ (mA ++ fpM (s ++ r'))).Nodup := ((pf.append_left (aa :: A)).nodup) nd
    have na : ∀ b, b ∈ A ∨ b ∈ mA ∨ b ∈ fpM (s ++ r') → b ≠ aa := fun b hb z => by
      subst z
      have h1 := (List.nodup_cons.mp nd2).1
      apply h1
      rcases hb with hb | hb | hb
      · exact List.mem_append_left _ hb
      · exact List.mem_append_right _ (List.mem_append_left _ hb)
      · exact List.mem_append_right _ (List.mem_append_right _ hb)
    refine ⟨dx, vs, e, l, oo.len.symm, Op.close (A := aa :: (A ++ mA)) (M := s ++ r') ⟨hp, ?_, fun b => ?_, ?_, fun m hm => ?_⟩⟩
    · have : aa :: (A ++ mA) ++ fpM (s ++ r') = (aa :: A) ++ (mA ++ fpM (s ++ r')) := by simp
      rw [this]; exact nd2
    · have : aa :: (A ++ mA) ++ fpM (s ++ r') = (aa :: A) ++ (mA ++ fpM (s ++ r')) := by simp
      rw [this, hs b]
      exact (pf.append_left (aa :: A)).mem_iff
    · rw [putF_new hf l]
      refine .oi (vs := vs ++ [v]) (by rw [upd_same]) (by simp [l]) ?_
      have o1 := Ows.up k oo fun b hb => upd_ne (na b (.inl hb))
      have o2 := Ow.up k ot fun b hb => upd_ne (na b (.inr (.inl hb)))
      rw [putF_new hf l] at o1 o2
      exact o1.snoc o2
    · refine (all m ?_).up k fun b hb => upd_ne (na b (.inr (.inr (List.mem_flatMap.mpr ⟨m, hm, hb⟩))))
      rcases List.mem_append.mp hm with z | z
      · exact List.mem_append_left _ z
      · exact List.mem_append_right _ (List.mem_cons_of_mem _ z)
theorem En.own_ins {i : Nat} {c : Nat} {ns : List Str} {ts : List T} (e : En G H S σ ρ F) (h : ρ[i]? = some (.oi c ns ts)) : ∃ a, σ[i]? = some (some (.ref a)) := by
  obtain ⟨v, hv, p⟩ := e.at h
  obtain ⟨A, M, _, _, _, ow, _⟩ := (e.rt.perm p).open
  cases ow with
  | oi _ _ _ => exact ⟨_, hv⟩
def sFld (cs : List Nat) (i : Nat) (f : Str) (m : M T) : MS := sBind m fun t ρ => match ρ[i]? with
  | some (.oi c ns ts) => if c ∈ cs ∧ f ∉ ns ∧ ns.length < 999 then some (.nx (ρ.set i (.oi c (ns ++ [f]) (ts ++ [t])))) else none
  | _ => none
theorem mid2 {α : Type} {a b : α} {l r : List α} : (a :: (l ++ b :: r)).Perm (a :: b :: (l ++ r)) := List.perm_middle.cons a
theorem pms_fld {cs : List Nat} {f : Str} (i : Nat) (hK : X.K = G.K) (c : FldOk G cs f) (he : PS X st (L2.sFld X.K (tVar i) (TEo G W m) f)) : PMs G W X st as (sFld cs i f m) := ps_mono he fun D σ H ⟨S, ρ, F, so, e, h, q⟩ => by
  rw [hK]
  refine TEo.goS e h q fun t ρ1 v H1 S1 h1 e1 => ?_
  split at h1
  · next cc ns ts hi =>
    split at h1
    case isFalse => cases h1
    next hc =>
    cases h1
    obtain ⟨hcc, hf, hl⟩ := hc
    obtain ⟨a, ha⟩ := e1.own_ins hi
    obtain ⟨v', hv', p⟩ := e1.at hi
    rw [ha] at hv'; cases hv'
    obtain ⟨dx, vs, h2, l1, l2, r2⟩ := Rt.field (e1.rt.perm (p.trans mid2)) hf
    refine ⟨.ref a, ha, a, _, dx, _, rfl, h2, (c cc hcc).1, (c cc hcc).2, by rw [List.length_zip]; omega, ?_⟩
    exact q σ _ S1 (e1.backS (List.getElem?_eq_some_iff.mp hi).1 ha _ r2) (Agr.refl _ _)
  · cases h1
/-- C(..), its __init__ raises nothing -/
def mMake (c : Nat) (g : Fn) (cm : M (List Lt)) : M T := cm.bind fun l => fun ρ => match g (.oi c [] [] :: l.map Prod.snd) with
  | some (.ok (.fz .non) (t :: outs)) => some (.ok t (giveBack l outs ρ))
  | _ => none
theorem Rt.newI {x dx : Addr} {c : Nat} {L : Rl} (r : Rt G H S L) (n1 : H x = none) (n2 : H dx = none) (ne : dx ≠ x) : Rt G (upd (upd H dx (.own x)) x (.ins (G.cl c) dx [])) (And1 S x) ((some (.ref x), .oi c [] []) :: L) := by
  have n3 : (upd H dx (.own x)) x = none := by rw [upd_ne (Ne.symm ne)]; exact n1
  have k : Same H (upd (upd H dx (.own x)) x (.ins (G.cl c) dx [])) := (Same.upd n2).trans (Same.upd n3)
  exact r.new k n1 (.oi (vs := []) (ns := []) (by rw [upd_same]; rfl) rfl .nil)
theorem pm_make {k : Nat} {f : Addr} {fd : FuncData} {ps : List Str} {g : Fn} {cm : M (List Lt)} {x : Str} {p : Pos} {c : Nat} (M : Mk X.K (G.cl c) f) (Fk : FnOk X.prog X.w X.K X.mg X.base (L2.CX X.prog X.w) k f fd ps (spOf G g)) (hr : Room (k + 1) X.A) (hg : Gl X x) (hm : X.mg x = some (.ref (G.cl c)))
    (hb : Binds X.K fd ps []) (ha : PMc G W X (e :: es) cm) (hdb : (x == ("__debug__" : Str)) = false := by decide) (he : starEach (e :: es) X.env = (false, eval e X.env) :: starEach es X.env := by rfl)
    (hpl : (backTo pos (starEach es X.env)).any (·.1) = false := by rfl) : PM G W X (.Call (.Name x p) (e :: es) [] pos) (mMake c g cm) :=
  pe_mono (pe_make M Fk hr hg hm hb .nil passL ha hdb he hpl) fun σ H Q ⟨S, ρ, F, o, e, h, q⟩ => by
  refine TCo.go e h q.hx fun l ρ1 vs H1 S1 hl h1 e1 => ?_
  intro x dx nx nd ne
  split at h1
  · next t outs hg =>
    cases h1
    have r1 : Rt G H1 S1 (rts vs (l.map Prod.snd) ++ (σ.zip ρ1 ++ F)) := e1.rt.perm (List.perm_append_comm_assoc _ _ _)
    rw [List.append_nil]
    refine ⟨_, .oi c [] [] :: l.map Prod.snd, σ.zip ρ1 ++ F, .ok (.fz .non) (t :: outs), by simp [hl.len], r1.newI nx nd ne, hg, fun v H2 S2 r2 => ?_⟩
    have hv : v = .non := r2.fz.non_inv
    refine ⟨hv, ?_⟩
    obtain ⟨S3, _, r3⟩ := Rt.drop r2
    have e2 : En G H2 S3 σ ρ1 (rts vs outs ++ ((some (.ref x), t) :: F)) := ⟨e1.len, r3.perm (by
      show (((some (V.ref x), t) :: rts vs outs) ++ (σ.zip ρ1 ++ F)).Perm (σ.zip ρ1 ++ (rts vs outs ++ ((some (.ref x), t) :: F)))
      refine List.Perm.trans (List.perm_append_comm_assoc _ _ _) (List.Perm.append_left _ ?_)
      exact List.perm_middle.symm)⟩
    obtain ⟨S4, _, e4⟩ := giveBack_en hl e2
    exact q _ H2 S4 e4
  · cases h1
/-! ### t * k -/
def gRep (d e : D) : Option T := match d, e with
  | .tup xs, .int k => if xs ≠ [] ∧ 1 ≤ k ∧ k ≤ 1000 ∧ xs.length ≤ 1000 then some (.fz (.tup (List.replicate k.toNat xs).flatten)) else none
  | _, _ => none
theorem rep_oc {vs : List V} {ds : List D} (h : Ocs G H S vs ds) : ∀ k : Nat, Ocs G H S (List.replicate k vs).flatten (List.replicate k ds).flatten
  | 0 => .nil
  | k + 1 => by rw [List.replicate_succ, List.replicate_succ, List.flatten_cons, List.flatten_cons]; exact h.append (rep_oc h k)
theorem ops_rep : OpS G (Lc.rRepB G.K) gRep := fun H S L x y d e t Q rt o1 o2 z q => by
  unfold gRep at z
  split at z
  · next xs k =>
    split at z
    · next hc =>
      cases z
      obtain ⟨hne, h1, h2, h3⟩ := hc
      have ot := o1.tup
      obtain ⟨a, vs, ev, sa, oa⟩ := ot.tup_inv
      subst ev
      refine ⟨a, k, vs, rfl, o2.int_inv, sa, fun z => hne (List.eq_nil_of_length_eq_zero (by rw [← oa.len, z]; rfl)), h1, h2, by rw [oa.len]; exact h3, fun hk => ?_, fun _ p H2 hp k' tp => q _ H2 S (rt.newT k' hp tp (rep_oc oa _))⟩
      subst hk
      have : (List.replicate (Int.toNat 1) xs).flatten = xs := by simp
      rw [this] at q
      exact q _ H S (rt.add ot)
    · cases z
  · cases z
theorem op_rep' (hK : X.K = G.K) : OpR X (binaryOp .Mult) (Lc.rRepB G.K) := by rw [← hK]; exact Lc.op_repB
def gMul (d e : D) : Option T := (gMul1 d e).or (gRep d e)
theorem op_Mul (hK : X.K = G.K) : OpR X (binaryOp .Mult) (rOr (rI CMulW fun i j => .int (i * j)) (Lc.rRepB G.K)) := op_or2 op_mulW (op_rep' hK)
theorem ops_Mul' : OpS G (rOr (rI CMulW fun i j => .int (i * j)) (Lc.rRepB G.K)) gMul := ops_Mul.or ops_rep
/-! ### methods: t.count(x), l.index(x) -/
def asSs : List D → Option (List Str)
  | [] => some []
  | .str b :: r => (asSs r).map (b :: ·)
  | _ :: _ => none
theorem asSs_map (ns : List Str) : asSs (ns.map D.str) = some ns := by
  induction ns with
  | nil => rfl
  | cons n r ih => rw [List.map_cons, asSs, ih]; rfl
theorem asSs_oc : ∀ {ds : List D} {vs : List V} {bs : List Str}, Ocs G H S vs ds → asSs ds = some bs → vs = bs.map V.str
  | [], [], bs, _, e => by cases e; rfl
  | [], _ :: _, _, h, _ => by cases h
  | .str b :: r, vs, bs, h, e => by
    unfold asSs at e
    cases z : asSs r with
    | none => rw [z] at e; cases e
    | some bs' =>
      rw [z] at e; cases e
      cases h with
      | cons h t => rw [h.str_inv, asSs_oc t z]; rfl
  | .non :: _, _, _, _, e => by cases e
  | .bl _ :: _, _, _, _, e => by cases e
  | .int _ :: _, _, _, _, e => by cases e
  | .tup _ :: _, _, _, _, e => by cases e
  | .lst _ :: _, _, _, _, e => by cases e
  | .dic _ _ :: _, _, _, _, e => by cases e
  | .ins _ _ _ :: _, _, _, _, e => by cases e
  | .fn _ :: _, _, _, _, e => by cases e
  | .scr _ :: _, _, _, _, e => by cases e
  | .ad _ :: _, _, _, _, e => by cases e
def gCnt (d e : D) : Option T := match d, e with
  | .tup xs, .str k => (asSs xs).map fun ws => .fz (.int (ws.countP fun y => decide (y = k) : Nat))
  | _, _ => none
theorem ops_cnt : OpS G (fun x y => Lc.rTCnt G.K x [y]) gCnt := fun H S L x y d e t Q rt o1 o2 z q => by
  unfold gCnt at z
  split at z
  · next xs k =>
    cases h : asSs xs with
    | none => rw [h] at z; cases z
    | some ws =>
      rw [h] at z; cases z
      obtain ⟨a, vs, ev, sa, oa⟩ := o1.tup.tup_inv
      subst ev
      rw [asSs_oc oa h] at sa
      exact ⟨a, ws, k, rfl, by rw [o2.str_inv], sa, q _ H S (rt.add (.int _))⟩
  · cases z
/-- x.m(y), by values -/
def PMm (G : Gx) (X : Cx) (e : Expr) (p q : Opd) (r : V → List V → Hp → VK → Prop) (W : WX) : Prop := PE X e (fun σ H Q => p.te G W σ H fun x H1 => tCons (q.te G W) tNil σ H1 fun xs H2 => r x xs H2 Q)
theorem pm_m1 {r : V → List V → Hp → VK → Prop} {g : D → D → Option T} (hr : OpS G (fun x y => r x [y]) g) (h : PMm G X e p q r W) : PM G W X e (mBin g p q) := pe_mono h fun σ H Q h => mBin_run hr h
end
end Rx

namespace Rx
open PySem PySem.Spec PyProof.Rows L2 RZ PySem.W
open Lc (Tp AS And1 ButS Lv minL maxL)
section
variable {G : Gx} {W : WX} {X : Cx} {a b c e tg : Expr} {es rest : List Expr} {st : Stmt} {sts : List Stmt} {m n : M T} {ms ns : MS} {as bs : List Nat} {p q : Opd} {pos : Pos} {σ : L2.St} {H : Hp} {S : AS} {ρ : Env} {F : Rl} {α β : Type} {IR : IRel α}
/-! ### methods of tuples -/
def TupY (K : PySem.W.Frag) (H : Hp) (x : V) : Prop := ∃ a xs, x = .ref a ∧ (Tp H a true xs ∨ TupK K a xs)
theorem Oc.tupY {v : V} {xs : List D} (h : Oc G H S v (.tup xs)) : TupY G.K H v := by
  cases h with
  | tup e _ _ => exact ⟨_, _, rfl, .inl e⟩
  | tupK e _ => exact ⟨_, _, rfl, .inr e⟩
def tBMT (K : PySem.W.Frag) (r : V → List V → Hp → VK → Prop) (to : TE) (t : TA) : TE := fun σ H Q => to σ H fun x H1 => TupY K H1 x ∧ t σ H1 fun xs H2 => r x xs H2 Q
theorem pe_bmT {o e : Expr} {es : List Expr} {to : TE} {t : TA} {name : Str} {apos cpos : Pos} {id : String} {r : V → List V → Hp → VK → Prop} (pa : PlainAttrs "tuple") (slot : Slot "tuple" name id) (hty : typeOf (.builtin id) = pure (.type "method_descriptor")) (hm : MtR X id r) (ho : PE X o to) (ha : PA X (e :: es) t)
    (hbase : attributeBase o name X.env (eval o X.env) = eval o X.env := by rfl)
    (hfew : ((backTo cpos (starEach (e :: es) X.env)).all (fun x => !x.1) && (backToKw cpos (keywordEach [] X.env)).all (fun x => x.1.isSome)
      && decide ((e :: es).length + ([] : List Keyword).length + (if ([] : List Keyword).isEmpty then 0 else 1) < 30)) = true := by rfl)
    (hline : (apos.endLine == cpos.line) = true := by rfl) (hs : starEach (e :: es) X.env = (false, eval e X.env) :: starEach es X.env := by rfl) (hplain : (backTo cpos (starEach es X.env)).any (·.1) = false := by rfl) :
    PE X (.Call (.Attribute o name apos) (e :: es) [] cpos) (tBMT X.K r to t) := by
  refine ⟨fun pins s σ H Q I h => ?_⟩
  refine wpAny_Call_method_late hbase hfew hline rfl (thn (ho.run pins s σ H _ I h) fun v s1 ⟨x, H1, I1, r1, ty, q1⟩ => ?_)
  have hh : s1.TypeIs v "tuple" ∧ ∀ a, v = .ref a → ∃ ob, s1.heap.get? a = some ob ∧ ob.dict = none := by
    obtain ⟨a, xs, rfl, tp⟩ := ty
    obtain rfl : v = .ref a := r1
    cases tp with
    | inl tp => cases tp with
      | @bare ob _ c d e =>
        obtain ⟨g, _⟩ := I1.hok a _ e
        exact ⟨⟨ob, g, c⟩, fun b z => by cases z; exact ⟨ob, g, d⟩⟩
    | inr tp =>
      obtain ⟨o, its, n, h1, h2, h3, _⟩ := tp
      have g := I1.kIn _ _ h1
      exact ⟨⟨o, g, h2⟩, fun b z => by cases z; exact ⟨o, g, h3⟩⟩
  obtain ⟨h1, h2⟩ := hh
  refine ⟨"tuple", id, pa, slot, hty, h1, h2, ?_⟩
  have hA := ha.run cpos pins s1 σ H1 _ I1 q1
  rw [hs] at hA ⊢
  refine Calls.callWith_builtin (by show (false || (backTo cpos (starEach es X.env)).any (·.1)) = false; rw [hplain] <;> rfl) (Calls.evalArgs_plain ?_)
  exact thn hA fun us s2 ⟨vs, H2, I2, r2, q2⟩ => hm pins s2 σ H2 x vs v us Q I2 r1 r2 q2
def mMt (g : List D → D → Option D) (m n : M T) : M T := (mD m).bind fun d => match d with
  | .tup xs => (mD n).bind fun e => M.opt ((g xs e).map .fz)
  | _ => M.opt none
theorem TEo.args1 {K : List V → Hp → Prop} (h : TEo G W m σ H fun v H1 => K [v] H1) : tCons (TEo G W m) tNil σ H K := h
theorem pm_mt {name : Str} {apos : Pos} {id : String} {r : V → List V → Hp → VK → Prop} {g : List D → D → Option D} (pa : PlainAttrs "tuple") (slot : Slot "tuple" name id) (hty : typeOf (.builtin id) = pure (.type "method_descriptor")) (hm : MtR X id r) (hK : X.K = G.K)
    (hr : ∀ H S L x y xs d k (Q : VK), Rt G H S L → Oc G H S x (.tup xs) → Oc G H S y d → g xs d = some k → (∀ v, Oc G H S v k → Q v H) → r x [y] H Q)
    (ho : PM G W X a m) (ha : PM G W X e n)
    (hbase : attributeBase a name X.env (eval a X.env) = eval a X.env := by rfl)
    (hfew : ((backTo pos (starEach [e] X.env)).all (fun x => !x.1) && (backToKw pos (keywordEach [] X.env)).all (fun x => x.1.isSome)
      && decide ([e].length + ([] : List Keyword).length + (if ([] : List Keyword).isEmpty then 0 else 1) < 30)) = true := by rfl)
    (hline : (apos.endLine == pos.line) = true := by rfl) (hs : starEach [e] X.env = (false, eval e X.env) :: starEach [] X.env := by rfl) (hplain : (backTo pos (starEach [] X.env)).any (·.1) = false := by rfl) :
    PM G W X (.Call (.Attribute a name apos) [e] [] pos) (mMt g m n) :=
  pe_mono (pe_bmT pa slot hty hm ho (pa_cons ha pa_nil hs) hbase hfew hline hs hplain) fun σ H Q ⟨S, ρ, F, o, e0, h, q⟩ => by
  unfold mMt at h
  refine TEo.goD e0 h q.hx fun d ρ1 v H1 S1 h1 e1 => ?_
  cases d with
  | tup xs =>
    refine ⟨hK ▸ e1.fz.tupY, ?_⟩
    refine TEo.args1 (TEo.goD e1 h1 (fun x ρ' z => (q.hx x ρ' z).mono) fun d2 ρ2 w H2 S2 h2 e2 => ?_)
    cases z : g xs d2 with
    | none => rw [z] at h2; cases h2
    | some k =>
      rw [z] at h2; cases h2
      obtain ⟨S3, u3, e3⟩ := e2.drop
      have o2 := e2.fz.up u3
      have o1 := e3.fz
      obtain ⟨S4, u4, e4⟩ := e3.drop
      exact hr H2 S4 _ v w xs d2 k Q e4.rt (o1.up u4) (o2.up u4) z fun u ou => q u H2 S4 (e4.add ou)
  | _ => cases h1
def gTCnt (xs : List D) (d : D) : Option D := match d with
  | .str k => (asSs xs).map fun ws => .int (ws.countP fun y => decide (y = k) : Nat)
  | _ => none
def rTIx (K : PySem.W.Frag) : V → List V → Hp → VK → Prop := fun x xs H Q => ∃ (p : Addr) (ws : List Str) (k : Str), x = .ref p ∧ xs = [.str k] ∧ SqT K H p (ws.map V.str) ∧ k ∈ ws ∧ Q (.int (ws.idxOf k : Nat)) H
theorem strs_of : ∀ {ws : List Str} {us : List Value}, Vals (ws.map V.str) us → StrsAre us ws
  | [], _, h => by cases h; exact .nil
  | w :: r, _, h => by
    cases h with
    | cons h t => obtain ⟨u, rfl⟩ := h; exact .cons w u (strs_of t)
theorem mt_tindex : MtR X "tuple.index" (rTIx X.K) := by
  intro pins s σ H x xs v us Q I rx rxs h
  obtain ⟨p, ws, k, rfl, rfl, hs, hk, q⟩ := h
  cases rx
  obtain ⟨u, rfl, ru⟩ := rxs.one
  obtain ⟨t, rfl⟩ := ru
  obtain ⟨its, rv, pt, _⟩ := I.tuple hs
  exact PySem.SeqAt.tuple_index_strs pt (strs_of rv) hk ⟨.int _, H, I.tok _, ⟨_, rfl⟩, q⟩
def gTIx (xs : List D) (d : D) : Option D := match d with
  | .str k => (asSs xs).bind fun ws => if k ∈ ws then some (.int (ws.idxOf k : Nat)) else none
  | _ => none
theorem pm_tcnt {apos : Pos} (hK : X.K = G.K) (hu : X.A.units + 64 < cLine) (ho : PM G W X a m) (ha : PM G W X e n)
    (hbase : attributeBase a "count" X.env (eval a X.env) = eval a X.env := by rfl)
    (hfew : ((backTo pos (starEach [e] X.env)).all (fun x => !x.1) && (backToKw pos (keywordEach [] X.env)).all (fun x => x.1.isSome)
      && decide ([e].length + ([] : List Keyword).length + (if ([] : List Keyword).isEmpty then 0 else 1) < 30)) = true := by rfl)
    (hline : (apos.endLine == pos.line) = true := by rfl) (hs : starEach [e] X.env = (false, eval e X.env) :: starEach [] X.env := by rfl) (hplain : (backTo pos (starEach [] X.env)).any (·.1) = false := by rfl) :
    PM G W X (.Call (.Attribute a "count" apos) [e] [] pos) (mMt gTCnt m n) :=
  pm_mt PySem.F.plainAttrs_tuple PySem.F.slot_tuple_count PySem.F.type_tuple_count (Lc.mt_tcount hu) hK (fun H S L x y xs d k Q rt o1 o2 z q => by
    unfold gTCnt at z
    split at z
    · next w =>
      cases h : asSs xs with
      | none => rw [h] at z; cases z
      | some ws =>
        rw [h] at z; cases z
        obtain ⟨p, vs, ev, sa, oa⟩ := o1.tup_inv
        subst ev
        rw [asSs_oc oa h] at sa
        rw [← hK] at sa
        exact ⟨p, ws, w, rfl, by rw [o2.str_inv], sa, q _ (.int _)⟩
    · cases z) ho ha hbase hfew hline hs hplain
theorem pm_tidx {apos : Pos} (hK : X.K = G.K) (ho : PM G W X a m) (ha : PM G W X e n)
    (hbase : attributeBase a "index" X.env (eval a X.env) = eval a X.env := by rfl)
    (hfew : ((backTo pos (starEach [e] X.env)).all (fun x => !x.1) && (backToKw pos (keywordEach [] X.env)).all (fun x => x.1.isSome)
      && decide ([e].length + ([] : List Keyword).length + (if ([] : List Keyword).isEmpty then 0 else 1) < 30)) = true := by rfl)
    (hline : (apos.endLine == pos.line) = true := by rfl) (hs : starEach [e] X.env = (false, eval e X.env) :: starEach [] X.env := by rfl) (hplain : (backTo pos (starEach [] X.env)).any (·.1) = false := by rfl) :
    PM G W X (.Call (.Attribute a "index" apos) [e] [] pos) (mMt gTIx m n) :=
  pm_mt PySem.F.plainAttrs_tuple PySem.F.slot_tuple_index PySem.F.type_tuple_index mt_tindex hK (fun H S L x y xs d k Q rt o1 o2 z q => by
    unfold gTIx at z
    split at z
    · next w =>
      cases h : asSs xs with
      | none => rw [h] at z; cases z
      | some ws =>
        rw [h] at z
        dsimp only [Option.bind] at z
        split at z
        · next hw =>
          cases z
          obtain ⟨p, vs, ev, sa, oa⟩ := o1.tup_inv
          subst ev
          rw [asSs_oc oa h] at sa
          rw [← hK] at sa
          exact ⟨p, ws, w, rfl, by rw [o2.str_inv], sa, hw, q _ (.int _)⟩
        · cases z
    · cases z) ho ha hbase hfew hline hs hplain
/-! ### min(ns, default=z) -/
theorem pm_mindf {x : Str} {xp : Pos} {kp : Pos} (hc : X.calm = true) (hu : X.A.units + 64 < cLine) (hK : X.K = G.K) (hg : Gl X x) (hm : X.mg x = none) (hv : bootBuiltins x = some (.builtin "min")) (ha : PM G W X e m) (hb : PM G W X b n)
    (hn : x ≠ "__name__" := by decide) (hdb : (x == ("__debug__" : Str)) = false := by decide) (hs : starEach [e] X.env = (false, eval e X.env) :: starEach [] X.env := by rfl) (he : backTo pos (starEach [e] X.env) = (false, eval e X.env) :: backTo pos (starEach [] X.env) := by rfl) (hpl : (backTo pos (starEach [e] X.env)).any (·.1) = false := by rfl) :
    PM G W X (.Call (.Name x xp) [e] [⟨some "default", b, kp⟩] pos) ((mD m).bind fun d => (mD n).bind fun z => M.opt (gMinDf d z)) :=
  pe_mono (pe_callBK (Lc.crk_minD X.K hc hu) hg hm hv (pa_cons ha pa_nil hs) (pk_cons hb pk_nil) hn hdb he hpl) fun σ H Q ⟨S, ρ, F, o, e0, h, q⟩ => by
  refine TEo.goD e0 h q.hx fun d ρ1 v H1 S1 h1 e1 => ?_
  refine TEo.args1 (K := fun zs H2 => Lc.rMinDf X.K [v] zs H2 Q) (TEo.goD e1 h1 (fun x ρ' z => (q.hx x ρ' z).mono) fun d2 ρ2 w H2 S2 h2 e2 => ?_)
  obtain ⟨S3, u3, e3⟩ := e2.drop
  have o2 := e2.fz.up u3
  have o1 := e3.fz
  obtain ⟨S4, u4, e4⟩ := e3.drop
  have o1 := o1.up u4
  have o2 := o2.up u4
  cases d with
  | lst xs =>
    cases z : asIs xs with
    | none => unfold gMinDf at h2; dsimp only at h2; rw [z] at h2; cases h2
    | some ns =>
      unfold gMinDf at h2; dsimp only at h2; rw [z] at h2
      cases h2
      obtain ⟨p, vs, rfl, hp, _, all⟩ := o1.lst_inv
      rw [asIs_oc all z] at hp
      refine ⟨p, ns, w, rfl, rfl, .inl (.inl hp), fun en => ?_, fun ne => ?_⟩
      · dsimp only at q; rw [if_pos en] at q; exact q w H2 S4 (e4.add o2)
      · dsimp only at q; rw [if_neg ne] at q; exact q _ H2 S4 (e4.add (.int _))
  | _ => cases h2
end
end Rx

namespace Rx
open PySem PySem.Spec PyProof.Rows L2 RZ PySem.W
open Lc (Tp AS And1 ButS Lv minL maxL Cl clD clS wMix MixOk)
section
variable {G : Gx} {W : WX} {X : Cx} {a b c e tg : Expr} {es rest : List Expr} {st : Stmt} {sts : List Stmt} {m n : M T} {ms ns : MS} {as bs : List Nat} {p q : Opd} {pos : Pos} {σ : L2.St} {H H' : Hp} {S : AS} {ρ : Env} {F : Rl} {α β : Type} {IR : IRel α}
/-! ### l.insert(i, x) -/
def rIns : V → List V → Hp → VK → Prop := fun x vs H Q => ∃ (l : Addr) (xs : List V) (i : Int) (y : V), x = .ref l ∧ vs = [.int i, y] ∧ H l = some (.lst xs) ∧ xs.length < sizeLine ∧ 0 ≤ i ∧ i < 2 ^ 63 ∧
    Q .non (upd H l (.lst (xs.take i.toNat ++ [y] ++ xs.drop i.toNat)))
theorem mt_ins : MtR X "list.insert" rIns := mt_insert
def insAt (ds : List D) (k : Nat) (d : D) : List D := ds.take k ++ [d] ++ ds.drop k
def sIns (i : Nat) (m n : M T) : MS := fun ρ => if isOl i ρ then sBind (mD m) (fun d => sBind (mD n) fun e ρ' => match ρ'[i]?, d with
    | some (.ol ds), .int k => if ds.length < sizeLine ∧ 0 ≤ k ∧ k < 2 ^ 63 then some (.nx (ρ'.set i (.ol (insAt ds k.toNat e)))) else none
    | _, _ => none) ρ else none
theorem TEo.args2 {K : List V → Hp → Prop} (h : TEo G W m σ H fun v H1 => TEo G W n σ H1 fun w H2 => K [v, w] H2) : tCons (TEo G W m) (tCons (TEo G W n) tNil) σ H K := h
theorem pms_ins (i : Nat) {K : PySem.W.Frag} (he : PE X e (tBM K "list" rIns (tVar i) (tCons (TEo G W m) (tCons (TEo G W n) tNil)))) (hs : swapsWith e none pos.line X.env = pure false := by rfl) : PMs G W X (.Expr e pos) as (sIns i m n) :=
  ps_mono (ps_expr he hs) fun D σ H ⟨S, ρ, F, so, e, h, q⟩ => by
  unfold sIns at h
  split at h
  case isFalse => cases h
  next hi =>
  obtain ⟨ds0, hi0⟩ := isOl_inv hi
  obtain ⟨a, vs, hv, ha, oc⟩ := e.own hi0
  refine ⟨.ref a, hv, .inl ⟨rfl, _, .inl (.inl ha)⟩, ?_⟩
  refine TEo.args2 (TEo.goSD e h q fun d ρ1 v H1 S1 h1 e1 => ?_)
  refine TEo.goSD e1 h1 (F := (some v, T.fz d) :: F) (D := { nx := fun _ H => D.nx σ H, rt := fun v H => True, bk := fun _ _ => True, ct := fun _ _ => True }) (as := []) ?_ fun d2 ρ2 w H2 S2 h2 e2 => ?_
  · cases so with
    | nx ρ' =>
      intro σ' H3 S3 e3 a3
      obtain ⟨S4, u4, e4⟩ := e3.drop
      have hσ : σ' = σ := List.ext_getElem? fun j => a3.2 j (by simp)
      subst hσ
      exact q σ' H3 S4 e4 (Agr.refl _ _)
    | rt t ρ' => intro _ _ _ _ _ _; trivial
    | bk ρ' => intro _ _ _ _ _; trivial
    | ct ρ' => intro _ _ _ _ _; trivial
    | ex x ρ' =>
      intro σ' a3
      have hσ : σ' = σ := List.ext_getElem? fun j => a3.2 j (by simp)
      subst hσ
      exact (q σ' (Agr.refl _ _)).mono
  · obtain ⟨S3, u3, e3⟩ := e2.drop
    have o2 := e2.fz.up u3
    have o1 := e3.fz
    obtain ⟨S4, u4, e4⟩ := e3.drop
    have o1 := o1.up u4
    have o2 := o2.up u4
    split at h2
    · have hds := ‹ρ2[i]? = some (T.ol _)›
      split at h2
      · next hk =>
        cases h2
        obtain ⟨a', vs', hv', ha', oc'⟩ := e4.own hds
        rw [hv] at hv'; cases hv'
        refine ⟨a, vs', _, w, rfl, by rw [o1.int_inv], ha', by rw [oc'.len]; exact hk.1, hk.2.1, hk.2.2, ?_⟩
        exact q σ _ S4 (e4.putOwn (vs := vs') hds hv (((oc'.take _).append (.cons o2 .nil)).append (oc'.drop _))) (Agr.refl _ _)
      · cases h2
    · cases h2
/-! ### own lists in a list -/
theorem Rt.split : ∀ {vs : List V} {ts : List T} {L : Rl} {M0 : RM}, (rts vs ts ++ L).Perm (rtM M0) → vs.length = ts.length → (∀ m ∈ M0, Ow G H S m.1 m.2.1 m.2.2) → ∃ A M, (fpM M0).Perm (A ++ fpM M) ∧ L.Perm (rtM M) ∧ Ows G H S vs ts A ∧ ∀ m ∈ M, Ow G H S m.1 m.2.1 m.2.2
  | [], [], L, M0, h, _, ow => ⟨[], M0, .refl _, h, .nil, ow⟩
  | v :: vs, t :: ts, L, M0, h, l, ow => by
    have hm : (some v, t) ∈ rtM M0 := h.subset List.mem_cons_self
    obtain ⟨m, mm, e⟩ := List.mem_map.mp hm
    obtain ⟨s, r, rfl⟩ := List.append_of_mem mm
    obtain ⟨mv, mt, mA⟩ := m
    cases e
    have pf : (fpM (s ++ (some v, mt, mA) :: r)).Perm (mA ++ fpM (s ++ r)) := by
      unfold fpM
      rw [List.flatMap_append, List.flatMap_append, List.flatMap_cons]
      exact List.perm_append_comm_assoc _ _ _
    have h2 : (rts vs ts ++ L).Perm (rtM (s ++ r)) := by
      refine (h.trans ?_).cons_inv (a := (some v, mt))
      unfold rtM
      rw [List.map_append, List.map_append, List.map_cons]
      exact List.perm_middle
    obtain ⟨A, M, p1, p2, o, om⟩ := Rt.split h2 (Nat.succ.inj l) fun m hm => ow m (by
      rcases List.mem_append.mp hm with z | z
      · exact List.mem_append_left _ z
      · exact List.mem_append_right _ (List.mem_cons_of_mem _ z))
    refine ⟨mA ++ A, M, ?_, p2, .cons (ow _ mm) o, om⟩
    rw [List.append_assoc]
    exact pf.trans (p1.append_left mA)
  | [], _ :: _, _, _, _, l, _ => nomatch l
  | _ :: _, [], _, _, _, l, _ => nomatch l
theorem Rt.newLL {vs : List V} {ts : List T} {L : Rl} {p : Addr} (r : Rt G H S (rts vs ts ++ L)) (l : vs.length = ts.length) (k : Same H H') (n : H p = none) (e : H' p = some (.lst vs)) : Rt G H' (And1 S p) ((some (.ref p), .ll ts) :: L) := by
  have lv := r.live
  obtain ⟨M0, h, nd, hs, ow⟩ := r
  obtain ⟨A, M, p1, p2, o, om⟩ := Rt.split h l ow
  have u := Up.add (S := S) k n
  have hk : ∀ a, a ∈ A ++ fpM M → H' a = H a := fun a ha => by
    have hS : S a := (hs a).mpr (p1.mem_iff.mpr ha)
    cases z : H a with
    | none => exact absurd z (lv a hS)
    | some o => exact k a o z
  refine Op.close (A := p :: A) (M := M) ⟨p2, ?_, fun a => ?_, .ll e (o.up u fun a ha => hk a (List.mem_append_left _ ha)), fun m hm => (om m hm).up u fun a ha => hk a (List.mem_append_right _ (List.mem_flatMap.mpr ⟨m, hm, ha⟩))⟩
  · refine List.nodup_cons.mpr ⟨fun z => lv p ((hs p).mpr (p1.mem_iff.mpr z)) n, p1.nodup nd⟩
  · show S a ∨ a = p ↔ a ∈ p :: (A ++ fpM M)
    rw [List.mem_cons, hs a, p1.mem_iff]
    exact Or.comm
def aT (m : M T) (r : M (List T)) : M (List T) := m.bind fun t => r.bind fun ts => M.ret (t :: ts)
def mLl (r : M (List T)) : M T := r.bind fun ts => M.opt (if sizeOk ts.length then some (.ll ts) else none)
theorem pma_nil : PMa G W X [] (M.ret []) := pa_mono pa_nil fun σ H Q ⟨S, ρ, F, o, e, h, q⟩ => by
  cases h
  exact q [] H S rfl e
theorem pma_cons {r : M (List T)} (ha : PM G W X e m) (hr : PMa G W X es r) (hs : starEach (e :: es) X.env = (false, eval e X.env) :: starEach es X.env := by rfl) : PMa G W X (e :: es) (aT m r) :=
  pa_mono (pa_cons ha hr hs) fun σ H Q ⟨S, ρ, F, o, e, h, q⟩ => by
  refine TEo.go e h q.hx fun t ρ1 v H1 S1 h1 e1 => ?_
  refine TAo.go e1 h1 (fun x ρ' z => (q.hx x ρ' z).mono) fun ts ρ2 vs H2 S2 l h2 e2 => ?_
  cases h2
  exact q (v :: vs) H2 S2 (congrArg Nat.succ l) (e2.frame List.perm_middle)
theorem pm_ll {r : M (List T)} (h : PMa G W X es r) : PM G W X (.List es pos) (mLl r) := pe_mono (pe_lst h) fun σ H Q ⟨S, ρ, F, o, e, h, q⟩ => by
  refine TAo.go e h q.hx fun ts ρ1 vs H1 S1 l h1 e1 => ?_
  unfold M.opt at h1
  split at h1
  · next z =>
    split at z
    · next hz =>
      cases z; cases h1
      refine ⟨by rw [l]; exact of_decide_eq_true hz, fun p hp => ?_⟩
      exact q _ _ _ (En.ofHead e1.len ((e1.rt.perm (by
        rw [← List.append_assoc, ← List.append_assoc]
        exact List.perm_append_comm.append_right F)).newLL l (Same.upd hp) hp upd_same))
    · cases z
  · cases h1
/-! ### raise -/
def sRaise (n : Nat) : MS := fun ρ => some (.ex ⟨n, none⟩ ρ)
theorem pms_raise (n : Nat) {t : Expr} (hc : X.calm = true) (tk : Takes X W) (h : PMk X t (fun _ H Q => Q (.ref (G.cl n)) none H)) : PMs G W X (.Raise (some t) none pos) as (sRaise n) :=
  ps_mono (ps_raise hc tk h) fun D σ H ⟨S, ρ, F, so, e, hm, q⟩ => by
  cases hm
  exact q σ (Agr.refl _ _) _ none H S ⟨rfl, rfl⟩ e
/-! ### try -/
structure Hd where
  cs : Nat → Option Bool
  slot : Option Nat
  body : Addr → Xc → MS
def setO (i : Option Nat) (t : T) (ρ : Env) : Env := match i with
  | none => ρ
  | some i => ρ.set i t
def SO.clr (i : Option Nat) : SO → Option SO
  | .nx ρ => some (.nx (setO i .no ρ))
  | .rt t ρ => some (.rt t (setO i .no ρ))
  | .bk ρ => some (.bk (setO i .no ρ))
  | .ct ρ => some (.ct (setO i .no ρ))
  | .ex _ _ => none
open Classical in
noncomputable def Hd.run (h : Hd) (x : Xc) (ρ : Env) : Option SO := if k : ∃ so, ∀ a : Addr, ((h.body a x (setO h.slot (.fz (.ad a)) ρ)).bind (SO.clr h.slot)) = some so then some (Classical.choose k) else none
theorem Hd.run_inv {h : Hd} {x : Xc} {so : SO} (e : h.run x ρ = some so) : ∀ a : Addr, ((h.body a x (setO h.slot (.fz (.ad a)) ρ)).bind (SO.clr h.slot)) = some so := by
  unfold Hd.run at e
  split at e
  · next k => cases e; exact Classical.choose_spec k
  · cases e
theorem Hd.run_eq {h : Hd} {x : Xc} {so : SO} (e : ∀ a : Addr, ((h.body a x (setO h.slot (.fz (.ad a)) ρ)).bind (SO.clr h.slot)) = some so) : h.run x ρ = some so := by
  have k : ∃ so, ∀ a : Addr, ((h.body a x (setO h.slot (.fz (.ad a)) ρ)).bind (SO.clr h.slot)) = some so := ⟨so, e⟩
  have s := Classical.choose_spec k
  unfold Hd.run
  rw [dif_pos k]
  exact (s (0 : Nat)).symm.trans (e (0 : Nat))
noncomputable def sHandle : List Hd → Xc → Env → Option SO
  | [], _, _ => none
  | h :: r, x, ρ => match h.cs x.c with
    | some true => h.run x ρ
    | some false => sHandle r x ρ
    | none => none
noncomputable def sTry (m : MS) (hs : List Hd) : MS := fun ρ => match m ρ with
  | some (.ex x ρ1) => sHandle hs x ρ1
  | o => o
inductive HdsOk (G : Gx) (X : Cx) (as : List Nat) : List ExceptHandler → List Hd → Prop
  | nil : HdsOk G X as [] []
  | plain {x : Str} {c : Value} {cs : Nat → Option Bool} {body : Addr → Xc → MS} {b₀ : Stmt} {ss : List Stmt} {np q : Pos} {hds : List ExceptHandler} {l : List Hd} (hc : Names X x c) (cf : ∀ n b, cs n = some b → PySem.W.exmOne G.K (.ref (G.cl n)) c = some b)
      (hsu : ∀ (a : Addr) (oe : Obj) (xx : Xc) (d : Option Addr) (pn : List (Addr × Obj)), Zc (.ref (G.cl xx.c)) d oe → (xx.f = none → d = none) → (∃ vs, oe.data = .fields vs) → PMb G W0 (X.suite a ((a, oe) :: pn)) (b₀ :: ss) as (body a xx)) (r : HdsOk G X as hds l) :
      HdsOk G X as (.ExceptHandler (some (.Name x np)) none (b₀ :: ss) q :: hds) (⟨cs, none, body⟩ :: l)
  | named {x n : Str} {i : Nat} {c : Value} {cs : Nat → Option Bool} {body : Addr → Xc → MS} {b₀ : Stmt} {ss : List Stmt} {np q : Pos} {hds : List ExceptHandler} {l : List Hd} (hc : Names X x c) (hi : X.N[i]? = some n) (hl : X.env.kindOf n = some .local) (ha : i ∈ as) (cf : ∀ n b, cs n = some b → PySem.W.exmOne G.K (.ref (G.cl n)) c = some b)
      (hsu : ∀ (a : Addr) (oe : Obj) (xx : Xc) (d : Option Addr) (pn : List (Addr × Obj)), Zc (.ref (G.cl xx.c)) d oe → (xx.f = none → d = none) → (∃ vs, oe.data = .fields vs) → PMb G W0 (X.suite a ((a, oe) :: pn)) (b₀ :: ss) as (body a xx)) (r : HdsOk G X as hds l) :
      HdsOk G X as (.ExceptHandler (some (.Name x np)) (some n) (b₀ :: ss) q :: hds) (⟨cs, some i, body⟩ :: l)
def tsO (G : Gx) (as : List Nat) (body : Addr → Xc → MS) (a : Addr) (cls : Value) (d : Option Addr) : TS := fun D σ H => ∃ x : Xc, (cls = .ref (G.cl x.c) ∧ (x.f = none → d = none)) ∧ TSo G W0 as (body a x) D σ H
theorem psx {P : Xc → Prop} {t : Xc → TS} (h : ∀ x, P x → PSs X sts (t x)) : PSs X sts (fun D σ H => ∃ x, P x ∧ t x D σ H) := ⟨fun pins s σ H D I ⟨x, px, hx⟩ => (h x px).run pins s σ H D I hx⟩
theorem En.no {i : Nat} {G : Gx} {H : Hp} {S : AS} {σ : L2.St} {ρ : Env} {F : Rl} (e : En G H S σ ρ F) : ∃ S', En G H S' σ (ρ.set i .no) F := by
  by_cases hi : i < ρ.length
  · obtain ⟨v, _, e1⟩ := e.take (List.getElem?_eq_getElem hi)
    obtain ⟨S1, _, e2⟩ := e1.drop
    exact ⟨S1, e2⟩
  · exact ⟨S, by rw [List.set_eq_of_length_le (Nat.le_of_not_lt hi)]; exact e⟩
theorem En.clr' {i : Nat} {G : Gx} {H : Hp} {S : AS} {σ : L2.St} {ρ : Env} {F : Rl} (e : En G H S σ ρ F) : ∃ S', En G H S' (σ.set i none) (ρ.set i .no) F := by
  by_cases hi : i < ρ.length
  · obtain ⟨S1, _, e2⟩ := e.clr hi none
    exact ⟨S1, e2⟩
  · exact ⟨S, by rw [List.set_eq_of_length_le (Nat.le_of_not_lt hi), List.set_eq_of_length_le (by rw [e.len]; exact Nat.le_of_not_lt hi)]; exact e⟩
theorem En.ad {i : Nat} {G : Gx} {H : Hp} {S : AS} {σ : L2.St} {ρ : Env} {F : Rl} (a : Addr) (e : En G H S σ ρ F) : ∃ S', En G H S' (σ.set i (some (.ref a))) (ρ.set i (.fz (.ad a))) F := by
  by_cases hi : i < ρ.length
  · obtain ⟨S1, _, e2⟩ := (e.add (.ad a)).set hi
    exact ⟨S1, e2⟩
  · exact ⟨S, by rw [List.set_eq_of_length_le (Nat.le_of_not_lt hi), List.set_eq_of_length_le (by rw [e.len]; exact Nat.le_of_not_lt hi)]; exact e⟩
theorem OutS.clr {D : Ends} {so so' : SO} {i : Option Nat} {σ0 : L2.St} {a : Addr} (q : OutS G W σ0 F as D so) (z : SO.clr i so' = some so) (ag : Agr as σ0 σ) (hi : ∀ j, i = some j → j ∈ as) : OutS G W0 (clS a σ i) F as (clD D i) so' := by
  have ag1 : Agr as σ0 (clS a σ i) := by
    cases i with
    | none => exact ag
    | some j => exact ag.trans (Agr.set (hi j rfl) _ _)
  cases so' with
  | nx ρ' =>
    cases z
    intro σ' H' S' e a'
    cases i with
    | none => exact q σ' H' S' e (ag1.trans a')
    | some j =>
      obtain ⟨S1, e1⟩ := e.clr' (i := j)
      exact q _ H' S1 e1 ((ag1.trans a').trans (Agr.set (hi j rfl) _ _))
  | rt t ρ' =>
    cases z
    intro v σ' H' S' e a'
    cases i with
    | none => exact q v σ' H' S' e (ag1.trans a')
    | some j =>
      obtain ⟨S1, e1⟩ := e.no (i := j)
      exact q v σ' H' S1 e1 (ag1.trans a')
  | bk ρ' =>
    cases z
    intro σ' H' S' e a'
    cases i with
    | none => exact q σ' H' S' e (ag1.trans a')
    | some j =>
      obtain ⟨S1, e1⟩ := e.clr' (i := j)
      exact q _ H' S1 e1 ((ag1.trans a').trans (Agr.set (hi j rfl) _ _))
  | ct ρ' =>
    cases z
    intro σ' H' S' e a'
    cases i with
    | none => exact q σ' H' S' e (ag1.trans a')
    | some j =>
      obtain ⟨S1, e1⟩ := e.clr' (i := j)
      exact q _ H' S1 e1 ((ag1.trans a').trans (Agr.set (hi j rfl) _ _))
  | ex x ρ' => cases z
theorem hd_run {h : Hd} {x : Xc} {so : SO} {D : Ends} {σ0 : L2.St} {cls : Value} {d : Option Addr} (en : En G H S σ ρ F) (e : h.run x ρ = some so) (q : OutS G W σ0 F as D so) (ag : Agr as σ0 σ) (hi : ∀ j, h.slot = some j → j ∈ as) (xc : cls = .ref (G.cl x.c) ∧ (x.f = none → d = none)) (a : Addr) :
    tsO G as h.body a cls d (clD D h.slot) (clS a σ h.slot) H := by
  have r := Hd.run_inv e a
  cases z : h.body a x (setO h.slot (.fz (.ad a)) ρ) with
  | none => rw [z] at r; cases r
  | some so' =>
    rw [z] at r
    have en2 : ∃ S', En G H S' (clS a σ h.slot) (setO h.slot (.fz (.ad a)) ρ) F := by
      cases h.slot with
      | none => exact ⟨S, en⟩
      | some j => exact en.ad a
    obtain ⟨S', en2⟩ := en2
    exact ⟨x, xc, S', _, F, so', en2, z, q.clr r ag hi⟩
theorem hds_mix (hK : X.K = G.K) {hs : List ExceptHandler} {l : List Hd} (h : HdsOk G X as hs l) : ∃ cl : List Cl, MixOk X hs cl ∧ ∀ (W : WX) (D : Ends) (σ0 σ : L2.St) (H : Hp) (S : AS) (ρ : Env) (F : Rl) (cls : Value) (d : Option Addr) (x : Xc) (so : SO),
    (cls = .ref (G.cl x.c) ∧ (x.f = none → d = none)) → En G H S σ ρ F → sHandle l x ρ = some so → OutS G W σ0 F as D so → Agr as σ0 σ → wMix X.K (fun _ _ _ _ => False) D cl cls d σ H := by
  induction h with
  | nil => exact ⟨[], .nil, fun _ _ _ _ _ _ _ _ _ _ _ _ _ _ e _ _ => by cases e⟩
  | @plain x c cs body b₀ ss np q hds l hc cf hsu r ih =>
    obtain ⟨cl, mx, rel⟩ := ih
    refine ⟨⟨c, none, tsO G as body⟩ :: cl, .plain hc (fun a oe cls d pn hz hf => psx fun x px => hsu a oe x d pn (by rw [← px.1]; exact hz) px.2 hf) mx, fun W D σ0 σ H S ρ F cls d x so xc en e q ag => ?_⟩
    unfold sHandle at e
    dsimp only at e
    cases z : cs x.c with
    | none => rw [z] at e; cases e
    | some b =>
      refine ⟨b, by rw [xc.1, hK]; exact cf _ _ z, fun hb a _ => ?_, fun hb => ?_⟩
      · subst hb
        rw [z] at e
        exact hd_run (h := ⟨cs, none, body⟩) en e q ag (fun j h => nomatch h) xc a
      · subst hb
        rw [z] at e
        exact rel W D σ0 σ H S ρ F cls d x so xc en e q ag
  | @named x n i c cs body b₀ ss np q hds l hc hi hl ha cf hsu r ih =>
    obtain ⟨cl, mx, rel⟩ := ih
    refine ⟨⟨c, some i, tsO G as body⟩ :: cl, .named hc hi hl (fun a oe cls d pn hz hf => psx fun x px => hsu a oe x d pn (by rw [← px.1]; exact hz) px.2 hf) mx, fun W D σ0 σ H S ρ F cls d x so xc en e q ag => ?_⟩
    unfold sHandle at e
    dsimp only at e
    cases z : cs x.c with
    | none => rw [z] at e; cases e
    | some b =>
      refine ⟨b, by rw [xc.1, hK]; exact cf _ _ z, fun hb a _ => ?_, fun hb => ?_⟩
      · subst hb
        rw [z] at e
        exact hd_run (h := ⟨cs, some i, body⟩) en e q ag (fun j h => by cases h; exact ha) xc a
      · subst hb
        rw [z] at e
        exact rel W D σ0 σ H S ρ F cls d x so xc en e q ag
theorem pms_try {body : List Stmt} {h₀ : ExceptHandler} {hds : List ExceptHandler} {l : List Hd} {mb : MS} (hK : X.K = G.K) (hs : X.stack = X.env :: X.outer) (hf : X.env.frame = some X.env.locals) (hN : X.N.Nodup)
    (hb : ∀ (W : WX) (pn : List (Addr × Obj)) (xe : Value → Shared → Prop), Takes (X.tr pn xe) W → PassesOwn (model X.prog X.w) X.A X.env xe → PMb G W (X.tr pn xe) body as mb)
    (hh : HdsOk G X as (h₀ :: hds) l) : PMs G W X (.Try body (h₀ :: hds) [] [] pos) as (sTry mb l) := by
  obtain ⟨cl, mx, rel⟩ := hds_mix hK hh
  refine ps_mono (Lc.ps_try_mix (tb := fun W => TSo G W as mb) hs hf hN hb mx) fun D σ H ⟨S, ρ, F, so, e, h, q⟩ => ?_
  unfold sTry at h
  cases z : mb ρ with
  | none => rw [z] at h; cases h
  | some so1 =>
    rw [z] at h
    cases so1 with
    | ex x ρ1 =>
      refine ⟨S, ρ, F, _, e, z, fun σ' ag cls d H1 S1 xc en => rel W D σ σ' H1 S1 ρ1 F cls d x so ⟨xc.1, fun hf => ?_⟩ en h q ag⟩
      have := xc.2
      rw [hf] at this
      exact this
    | nx ρ1 => cases h; exact ⟨S, ρ, F, _, e, z, q⟩
    | rt t ρ1 => cases h; exact ⟨S, ρ, F, _, e, z, q⟩
    | bk ρ1 => cases h; exact ⟨S, ρ, F, _, e, z, q⟩
    | ct ρ1 => cases h; exact ⟨S, ρ, F, _, e, z, q⟩
end
end Rx

namespace Rx
open PySem PySem.Spec PyProof.Rows L2 RZ PySem.W
open Lc (Tp AS And1 ButS Lv minL maxL Cl clD clS wMix MixOk)
theorem u200 {k : Nat} {A : Around} (hr : Room k A) : A.units + 200 < cLine := by have := hr.un; omega
theorem u64 {k : Nat} {A : Around} (hr : Room k A) : A.units + 64 < cLine := by have := hr.un; omega
section
variable {G : Gx} {W : WX} {X : Cx} {a b c e tg : Expr} {es rest : List Expr} {st : Stmt} {sts : List Stmt} {m n : M T} {ms ns : MS} {as bs : List Nat} {p q : Opd} {pos : Pos} {σ : L2.St} {H H' : Hp} {S : AS} {ρ : Env} {F : Rl} {α β : Type} {IR : IRel α}
/-! ### isinstance of the error that a suite holds -/
def mIsx (a : Addr) (xx : Xc) (tb : Nat → Option Bool) (i : Nat) : M T := fun ρ => match ρ[i]?, xx.f, tb xx.c with
  | some (.fz (.ad a')), none, some b => if a' = a then some (.ok (.fz (.bl b)) ρ) else none
  | _, _, _ => none
def rIsG (K : PySem.W.Frag) (a : Addr) (cls : Value) (d : Option Addr) : List V → Hp → VK → Prop := fun xs H Q => ∃ D, cls = .ref D ∧ d = none ∧ ExcC K D ∧ rIsE K D a xs H Q
theorem call_isG {X : Cx} {a : Addr} {oe : Obj} {cls : Value} {d : Option Addr} {pn : List (Addr × Obj)} (hz : Zc cls d oe) (hf : ∃ vs, oe.data = .fields vs) : CallR (X.suite a ((a, oe) :: pn)) (.builtin "isinstance") (rIsG X.K a cls d) := by
  intro pins s σ H xs us Q I r h
  obtain ⟨D, rfl, rfl, C, h⟩ := h
  exact call_isE C hz hf pins s σ H xs us Q I r h
theorem pm_isx {a : Addr} {oe : Obj} {xx : Xc} {d : Option Addr} {pn : List (Addr × Obj)} {tb : Nat → Option Bool} {c : V} {cv : Value} {y : Str} {xp yp : Pos} {e2 : Expr} (i : Nat) (hz : Zc (.ref (G.cl xx.c)) d oe) (hd : xx.f = none → d = none) (hf : ∃ vs, oe.data = .fields vs) (hK : X.K = G.K)
    (ht : ∀ n b, tb n = some b → ExcC G.K (G.cl n) ∧ PySem.W.kitOne G.K (.ref (G.cl n)) cv = some b) (hcv : ∀ u, RelV c u → u = cv) (hg : Gl (X.suite a ((a, oe) :: pn)) "isinstance") (hm : X.mg "isinstance" = none) (h2 : PE (X.suite a ((a, oe) :: pn)) e2 (tC c))
    (hN : X.N[i]? = some y := by rfl) (hv : Vis X.env.scope y := by first | exact Or.inl rfl | exact Or.inr (Or.inl rfl) | exact Or.inr (Or.inr rfl)) (hdy : (y == ("__debug__" : Str)) = false := by decide) (hcd : (y == ("__classdict__" : Str)) = false := by decide)
    (he : starEach [.Name y yp, e2] (X.suite a ((a, oe) :: pn)).env = (false, eval (.Name y yp) (X.suite a ((a, oe) :: pn)).env) :: starEach [e2] (X.suite a ((a, oe) :: pn)).env := by rfl) (he2 : starEach [e2] (X.suite a ((a, oe) :: pn)).env = (false, eval e2 (X.suite a ((a, oe) :: pn)).env) :: starEach [] (X.suite a ((a, oe) :: pn)).env := by rfl)
    (hpl : (backTo pos (starEach [e2] (X.suite a ((a, oe) :: pn)).env)).any (·.1) = false := by rfl) :
    PM G W (X.suite a ((a, oe) :: pn)) (.Call (.Name "isinstance" xp) [.Name y yp, e2] [] pos) (mIsx a xx tb i) :=
  pe_mono (pe_callB (call_isG hz hf) hg hm (by decide +kernel) (pa_cons (pe_var (i := i) hN hv hdy hcd) (pa_cons h2 pa_nil he2) he) (by decide) (by decide) he hpl) fun σ H Q ⟨S, ρ, F, o, e0, h, q⟩ => by
  unfold mIsx at h
  split at h
  · next a' b h1 h3 h4 =>
    split at h
    · next ea =>
      cases h; subst ea
      obtain ⟨v, hv, oc⟩ := e0.var h1
      cases oc
      refine ⟨_, hv, ?_⟩
      exact ⟨_, rfl, hd h3, hK ▸ (ht _ _ h4).1, _, cv, b, rfl, hcv, hK ▸ (ht _ _ h4).2, q _ H S (e0.add (.bl b))⟩
    · cases h
  · cases h
end
theorem pms_setLc {G : Gx} {W : WX} {X : Cx} {α : Type} {IR : IRel α} {m : M T} {e tg : Expr} {as : List Nat} {pos spos : Pos} (i : Nat) {y : Str} {py : Pos} {iter : Expr} {ifs : List Expr} {scope : Scope} {own : List (Str × Nat)} {it : M (List α)} {bd : α → Env → Option Env} {t : M Bool} (vs : List Nat) (hc : X.calm = true) (hN : X.N.Nodup) (hy : X.N[i]? = some y) (hyl : X.env.scope.names.lookup y = some .local)
    (hsw : swapsWith (.ListComp e [⟨tg, iter, ifs, 0⟩] scope pos) (some (.Name y py)) spos.line X.env = pure true) (hi : PMi G W X IR tg iter it) (ok : BlkOk X.N X.env.scope scope own)
    (hg : ∀ (s : Shared) (H : Hp) (C : Addr) (cl : List (Str × Addr)) (fp : List Addr), PMg G (X.blk s H scope (compEnvC scope cl C X.env) fp) IR tg bd vs)
    (ht : ∀ (s : Shared) (H : Hp) (C : Addr) (cl : List (Str × Addr)) (fp : List Addr), PTs (X.blk s H scope (compEnvC scope cl C X.env) fp) ifs (TTo G W0 t))
    (he : ∀ (s : Shared) (H : Hp) (C : Addr) (cl : List (Str × Addr)) (fp : List Addr), PM G W0 (X.blk s H scope (compEnvC scope cl C X.env) fp) e m) (hm : i ∈ as) (hv : own.map (·.2) = vs := by rfl) (nd : vs.Nodup := by decide)
    (hs : ∀ x, foldedSetIterable iter X.env x = pure x := by intro _; rfl) : PMs G W X (.Assign [.Name y py] (.ListComp e [⟨tg, iter, ifs, 0⟩] scope pos) spos) as (sSet i (mLc it bd t m vs)) :=
  ps_mono (ps_setLc hc hN hy hyl hsw hi ok hg ht he hs) fun D σ H ⟨S, ρ, F, so, e, h, q⟩ => by
  rw [hv]
  refine mLc_run nd (TEo.goS e h q fun t ρ1 v H1 S1 h1 e1 => ?_)
  cases z : setE i t ρ1 with
  | none => rw [z] at h1; cases h1
  | some ρ2 =>
    rw [z] at h1; cases h1
    obtain ⟨hl, rfl⟩ := setE_inv z
    obtain ⟨S2, _, e2⟩ := e1.set hl
    exact q _ H1 S2 e2 (Agr.set hm σ _)
theorem pts_nilM {G : Gx} {W : WX} {X : Cx} : PTs X [] (TTo G W (M.ret true)) := ⟨fun pins s σ H Q I ⟨S, ρ, F, o, e, h, q⟩ => by
  cases h
  exact pts_nil.run pins s σ H Q I (q H S e)⟩
theorem exm_pair {K : PySem.W.Frag} {A B : Addr} {b : Bool} (p : PySem.W.subIn K (.ref B) (.type "BaseException") = some true) (i : PySem.W.isClsIn K B = true) (t : PySem.W.typeIn K (.ref B) = some (.type "type")) (q : PySem.W.subIn K (.ref A) (.ref B) = some b) :
    PySem.W.exmOne K (.ref A) (.ref B) = some b := by
  have i' : (PySem.W.clsIn K B).isSome = true := i
  unfold PySem.W.exmOne PySem.W.kitCls
  rw [p]
  dsimp only
  rw [i', t]
  exact q
theorem kit_pair {K : PySem.W.Frag} {A B : Addr} {b : Bool} (i : PySem.W.isClsIn K B = true) (t : PySem.W.typeIn K (.ref B) = some (.type "type")) (q : PySem.W.subIn K (.ref A) (.ref B) = some b) (hb : b = true := by rfl) :
    PySem.W.kitOne K (.ref A) (.ref B) = some b := by
  have i' : (PySem.W.clsIn K B).isSome = true := i
  unfold PySem.W.kitOne PySem.W.kitCls
  dsimp only
  rw [i', t]
  by_cases e : (Value.ref A == Value.ref B) = true
  · rw [if_pos e, hb]
  · rw [if_neg e]; exact q
theorem kit_ve {K : PySem.W.Frag} {A : Addr} {b : Bool} (q : PySem.W.subIn K (.ref A) (.type "ValueError") = some b) : PySem.W.kitOne K (.ref A) (.type "ValueError") = some b := by
  have m : PySem.W.kitMeta "ValueError" = true := by decide +kernel
  unfold PySem.W.kitOne PySem.W.kitCls
  dsimp only
  rw [m]
  exact q
/-! ### a law's own promise from its program -/
theorem FnOk.calm {P : Program} {w : World} {K : PySem.W.Frag} {mg : Str → Option Value} {base : Heap} {k : Nat} {f : Addr} {fd : FuncData} {ps : List Str} {sp sp' : Sp} (h : FnOk P w K mg base (L2.CX P w) k f fd ps sp) (i : ∀ vs H Q E, sp' vs H Q E → sp vs H Q (fun _ _ _ => False)) :
    FnOk P w K mg base CX0 k f fd ps sp' := ⟨fun vs H Q E z => h.len vs H Q _ (i vs H Q E z), fun A outer s H args us vs Q E hr he hb hv z => by
  refine codeAny_mono (h.run A outer s H args us vs Q (fun _ _ _ => False) hr he hb hv (i vs H Q E z)) fun r s' c => ?_
  cases r with
  | ok x => cases x <;> exact c
  | error e =>
    obtain ⟨_, _, _, _, _, _, _, _, _, _, _, _, z⟩ := c
    exact z⟩
def spLaw (K : PySem.W.Frag) : Sp := fun vs H Q _ => ∃ (a : Addr) (ns : List Int), vs = [.ref a] ∧ SqL K H a (ns.map V.int) ∧ ns.length ≤ 63 ∧ (∀ z ∈ ns, Builtin.Int.intBits z ≤ 1048576) ∧ ∀ H', Q (.bl true) H'
theorem law_sp {G : Gx} {g : Fn} (h : ∀ ns : List Int, ns.length ≤ 63 → (∀ z ∈ ns, Builtin.Int.intBits z ≤ 1048576) → ∃ outs, g [.fz (.scr ns)] = some (.ok (.fz (.bl true)) outs)) : ∀ vs H Q E, spLaw G.K vs H Q E → spOf G g vs H Q (fun _ _ _ => False) := fun vs H Q E ⟨a, ns, ev, hs, hl, hb, q⟩ => by
  subst ev
  obtain ⟨outs, e⟩ := h ns hl hb
  have oc : Oc G H (fun _ => False) (.ref a) (.scr ns) := by
    rcases hs with r | k
    · exact .scr r (fun z => z)
    · exact .scrK k
  have rt : Rt G H (fun _ => False) [] := ⟨[], .refl _, List.nodup_nil, fun a => ⟨fun z => z.elim, fun z => nomatch z⟩, fun m hm => nomatch hm⟩
  refine ⟨_, [.fz (.scr ns)], [], _, rfl, rt.add oc, e, fun v H' S' r => ?_⟩
  have := r.fz
  rw [this.bl_inv]
  exact q H'
end Rx

namespace Rx
open PySem PySem.Spec PyProof.Rows L2 RZ PySem.W
open Lc (Tp AS And1 ButS Lv minL maxL)
/-! ### a draw from a pot: [cells, turn], the cells changed through a second name -/
def drawF (m : MS) : Fn := fun ts => match ts with
  | [.ll [.ol ds, .fz (.int t)], .fz (.int lim)] => match m [.no, .fz (.int lim), .ol ds, .fz (.int t), .no, .no, .no, .no] with
    | some (SO.rt (.fz (.int r)) ρ) => match (ρ[2]? : Option T) with
      | some (.ol ds') => some (.ok (.fz (.int r)) [.ll [.ol ds', .fz (.int (t + 1))], .fz (.int lim)])
      | _ => none
    | _ => none
  | _ => none
theorem perm_cnt {α : Type} {l m : List α} (h : ∀ [DecidableEq α] (x : α), l.count x = m.count x) : l.Perm m := by
  letI : DecidableEq α := fun a b => Classical.propDecidable (a = b)
  exact List.perm_iff_count.mpr fun x => h x
theorem Rt.drops {G : Gx} {H : Hp} : ∀ {L F : Rl} {S : AS}, Rt G H S (L ++ F) → ∃ S', Up H S H S' ∧ Rt G H S' F
  | [], F, S, r => ⟨S, Up.refl _ _, r⟩
  | x :: L, F, S, r => by
    obtain ⟨S1, u1, r1⟩ := Rt.drop (x := x) r
    obtain ⟨S2, u2, r2⟩ := Rt.drops r1
    exact ⟨S2, u1.trans u2, r2⟩
theorem Rt.pot {G : Gx} {H : Hp} {S : AS} {p : Addr} {vs : List V} {ts : List T} {L : Rl} (r : Rt G H S ((some (.ref p), .lr vs) :: (rts vs ts ++ L))) (l : vs.length = ts.length) : Rt G H S ((some (.ref p), .ll ts) :: L) := by
  obtain ⟨A0, M0, h, nd, hs, ow, om⟩ := r.open
  cases ow with
  | lr e =>
    obtain ⟨A, M, p1, p2, o, om2⟩ := Rt.split h l om
    refine Op.close (A := p :: A) (M := M) ⟨p2, ?_, fun b => (hs b).trans ?_, .ll e o, om2⟩
    · exact (List.Perm.cons p p1).nodup nd
    · exact (List.Perm.cons p p1).mem_iff
theorem fn_draw {G : Gx} {P : Program} {w : World} {K : PySem.W.Frag} {mg : Str → Option Value} {base : Heap} {x qual : Str} {st : Stmt} {f : Addr} {fd : FuncData} {N ps : List Str} {k : Nat} {m : MS} (Fu : Fun K x qual st f fd) (Sc : FnScope N ps (defScope st)) (hp : ps.length = 2) (hl : N.length = 8)
    (hbody : ∀ (cdv : Value) (A : Around) (outer : List PySem.Env) (s : Shared) (H : Hp) (E : XK), Room k (A.deeper (envOfC qual (defScope st) s.heap.objs.size f cdv)) →
      PSs (cxOf (L2.CX P w) P w K mg base N qual (defScope st) f cdv A outer s H E) (defBody st) (tSeq (tAsg (tVar 0) (gLst G.K 2 (L2.gCons (gName 2) (L2.gCons (gName 3) L2.gNil)))) (tSeq (tAsg (tOp (rI0 fun i j => .int (i + j)) (tVar 3) (tC (.int 1))) (L2.gSub (tVar 0) (tC (.int 1)) rSetL)) (TSo G (fun cls d _ H => E cls d H) [4, 5, 6, 7] m)))) :
    FnOk P w K mg base (L2.CX P w) (k + 1) f fd ps (spOf G (drawF m)) := by
  refine Fu.okX Sc (fun vs H Q E ⟨S, ts, F, fo, l, r, h, q⟩ => ?_) fun cdv A outer s H vs Q E hr ⟨S, ts, F, fo, l, r, h, q⟩ => ⟨_, hbody cdv A outer s H E hr, ?_⟩
  · unfold drawF at h
    split at h
    · rw [l, hp]; rfl
    · cases h
  · unfold drawF at h
    split at h
    case h_2 => cases h
    next ds t lim =>
    split at h
    case h_2 => cases h
    next ri ρ3 hm =>
    split at h
    case h_2 => cases h
    next ds' h2 =>
    cases h
    match vs, l with
    | [vp, vl], _ =>
    have hst : L2.start N [vp, vl] = [some vp, some vl, none, none, none, none, none, none] := by
      unfold L2.start
      rw [hl]; rfl
    rw [hst]
    obtain ⟨A0, M, hperm, nd, hs, ow, om⟩ := Rt.open (v := some vp) (t := .ll [.ol ds, .fz (.int t)]) (L := (some vl, .fz (.int lim)) :: F) r
    have evl : vl = .int lim := by
      have := (r.perm (List.Perm.swap _ _ _)).fz
      exact this.int_inv
    cases ow with
    | @ll p us _ A1 e all =>
    cases all with
    | @cons v0 _ us1 _ A2 B2 ow0 all =>
    cases all with
    | @cons v1 _ us2 _ A3 B3 ow1 all =>
    cases all
    cases ow1 with
    | fz o1 =>
    have ev1 := o1.int_inv
    subst ev1
    cases ow0 with
    | @ol a ws _ ea oc =>
    -- the first two statements
    refine ⟨_, rfl, p, [.ref a, .int t], rfl, .inl (.inl e), rfl, .ref a, [.int t], rfl, .int t, [], rfl, rfl, ?_⟩
    refine ⟨.int t, rfl, t, 1, rfl, rfl, ?_⟩
    refine ⟨.ref p, rfl, p, [.ref a, .int t], 1, 1, rfl, rfl, e, (by show ixN 2 1 = some 1; decide), ?_⟩
    -- what stands then
    have nd' : (p :: a :: fpM M).Nodup := nd
    have np : p ∉ a :: fpM M := (List.nodup_cons.mp nd').1
    have nd2 : (a :: fpM M).Nodup := (List.nodup_cons.mp nd').2
    have hs' : ∀ b, S b ↔ b ∈ p :: a :: fpM M := hs
    have u : Up H S (upd H p (.lst [.ref a, .int (t + 1)])) S := Up.put ((hs' p).mpr List.mem_cons_self)
    have hne : ∀ b, b ∈ a :: fpM M → upd H p (.lst [.ref a, .int (t + 1)]) b = H b := fun b hb => upd_ne fun z => np (z ▸ hb)
    have rt2 : Rt G (upd H p (.lst [.ref a, .int (t + 1)])) S ((some (.ref a), .ol ds) :: (some (.ref p), .lr [.ref a, .int (t + 1)]) :: (some vl, .fz (.int lim)) :: F) := by
      refine ⟨(some (.ref a), .ol ds, [a]) :: (some (.ref p), .lr [.ref a, .int (t + 1)], [p]) :: M, ?_, ?_, fun b => (hs' b).trans ?_, fun m hm => ?_⟩
      · exact (hperm.cons _).cons _
      · exact (List.Perm.swap a p (fpM M)).nodup nd'
      · exact (List.Perm.swap a p (fpM M)).mem_iff
      · rcases List.mem_cons.mp hm with rfl | hm
        · exact .ol ((hne a List.mem_cons_self).trans ea) (oc.up u)
        · rcases List.mem_cons.mp hm with rfl | hm
          · exact .lr upd_same
          · exact (om m hm).up u fun b hb => hne b (List.mem_cons_of_mem _ (List.mem_flatMap.mpr ⟨m, hm, hb⟩))
    have en : En G (upd H p (.lst [.ref a, .int (t + 1)])) S [some (.ref p), some vl, some (.ref a), some (.int t), none, none, none, none] [.no, .fz (.int lim), .ol ds, .fz (.int t), .no, .no, .no, .no] ((some (.ref p), .lr [.ref a, .int (t + 1)]) :: F) := by
      refine ⟨rfl, ?_⟩
      have r3 := ((((rt2.add (u := .int t) (d := .int t) (.int t)).addNo (some (.ref p))).addNo none).addNo none).addNo none |>.addNo none
      refine r3.perm ?_
      show List.Perm ((none, T.no) :: (none, T.no) :: (none, T.no) :: (none, T.no) :: (some (.ref p), T.no) :: (some (.int t), .fz (.int t)) :: (some (.ref a), .ol ds) :: (some (.ref p), .lr [.ref a, .int (t + 1)]) :: (some vl, .fz (.int lim)) :: F)
        ((some (.ref p), T.no) :: (some vl, .fz (.int lim)) :: (some (.ref a), .ol ds) :: (some (.int t), .fz (.int t)) :: (none, T.no) :: (none, T.no) :: (none, T.no) :: (none, T.no) :: (some (.ref p), .lr [.ref a, .int (t + 1)]) :: F)
      exact (perm_cnt fun x => by simp only [List.count_cons, List.count_append]; ac_rfl)
    refine ⟨S, _, _, _, en, hm, fun v σ' H' S' e' ag => ?_⟩
    have hσ : σ'[2]? = some (some (.ref a)) := ag.2 2 (by decide)
    have ev : v = .int ri := e'.fz.int_inv
    subst ev
    subst evl
    obtain ⟨v2, hv2, pm⟩ := e'.at h2
    rw [hσ] at hv2; cases hv2
    have r5 := e'.rt.perm pm
    -- the roots wanted
    have r6 : ∃ S6, Up H' S' H' S6 ∧ Rt G H' S6 ((some (.ref a), .ol ds') :: (some (.ref p), .lr [.ref a, .int (t + 1)]) :: F) := by
      have r7 : Rt G H' S' ((σ'.zip ρ3).eraseIdx 2 ++ ((some (.int ri), .fz (.int ri)) :: (some (.ref a), .ol ds') :: (some (.ref p), .lr [.ref a, .int (t + 1)]) :: F)) := r5.perm (perm_cnt fun x => by simp only [List.count_cons, List.count_append]; ac_rfl)
      obtain ⟨S8, u8, r8⟩ := Rt.drops r7
      obtain ⟨S9, u9, r9⟩ := r8.drop
      exact ⟨S9, u8.trans u9, r9⟩
    obtain ⟨S6, u6, r6⟩ := r6
    have r9 : Rt G H' S6 ((some (.ref p), .ll [.ol ds', .fz (.int (t + 1))]) :: F) :=
      Rt.pot (vs := [.ref a, .int (t + 1)]) (ts := [.ol ds', .fz (.int (t + 1))]) ((r6.add (u := .int (t + 1)) (d := .int (t + 1)) (.int _)).perm (by
        show List.Perm ((some (.int (t + 1)), .fz (.int (t + 1))) :: (some (.ref a), .ol ds') :: (some (.ref p), .lr [.ref a, .int (t + 1)]) :: F) ((some (.ref p), .lr [.ref a, .int (t + 1)]) :: (some (.ref a), .ol ds') :: (some (.int (t + 1)), .fz (.int (t + 1))) :: F)
        exact (perm_cnt fun x => by simp only [List.count_cons, List.count_append]; ac_rfl))) rfl
    exact q (.int ri) H' S6 (((r9.add (u := .int lim) (d := .int lim) (.int _)).add (u := .int ri) (d := .int ri) (.int _)).perm (by
        show List.Perm ((some (.int ri), .fz (.int ri)) :: (some (.int lim), .fz (.int lim)) :: (some (.ref p), .ll [.ol ds', .fz (.int (t + 1))]) :: F) ((some (.int ri), .fz (.int ri)) :: (some (.ref p), .ll [.ol ds', .fz (.int (t + 1))]) :: (some (.int lim), .fz (.int lim)) :: F)
        exact (perm_cnt fun x => by simp only [List.count_cons, List.count_append]; ac_rfl)))
end Rx

namespace Rx
open PySem PySem.Spec PyProof.Rows L2 RZ PySem.W
open Lc (Tp AS And1 ButS Lv minL maxL)
theorem nr {α : Sort _} {a b : α} (h : a = b) : a = b := h
/-! ### running programs: each construct at an environment; simp goes by these -/
section
variable {α β : Type} {ρ ρ' : Env} {x : Xc} {m n k : M T} {p q : Opd} {d : D} {t : M Bool} {ms ns : MS} {i j : Nat}
def obnd (o : Option (O α)) (f : α → M β) : Option (O β) := match o with
  | some (.ok a ρ) => f a ρ
  | some (.ex x ρ) => some (.ex x ρ)
  | none => none
@[simp] theorem obnd_ok {a : α} {f : α → M β} : obnd (some (.ok a ρ)) f = f a ρ := nr rfl
@[simp] theorem obnd_ex {f : α → M β} : obnd (some (.ex x ρ)) f = some (.ex x ρ) := nr rfl
@[simp] theorem obnd_no {f : α → M β} : obnd none f = none := nr rfl
@[simp] theorem r_bind {m : M α} {f : α → M β} : M.bind m f ρ = obnd (m ρ) f := nr rfl
@[simp] theorem r_ret {a : α} : M.ret a ρ = some (.ok a ρ) := nr rfl
@[simp] theorem r_opt {a : α} : M.opt (some a) ρ = some (.ok a ρ) := nr rfl
@[simp] theorem r_optN : (M.opt none : M α) ρ = none := nr rfl
/-- a tree's datum -/
def odat (o : Option (O T)) : Option (O D) := match o with
  | some (.ok t ρ) => match t.fr with
    | some d => some (.ok d ρ)
    | none => none
  | some (.ex x ρ) => some (.ex x ρ)
  | none => none
@[simp] theorem odat_fz : odat (some (.ok (.fz d) ρ)) = some (.ok d ρ) := nr rfl
@[simp] theorem odat_ol {ds : List D} : odat (some (.ok (.ol ds) ρ)) = some (.ok (.lst ds) ρ) := nr rfl
@[simp] theorem odat_ex : odat (some (.ex x ρ)) = some (.ex x ρ) := nr rfl
@[simp] theorem odat_no : odat none = none := nr rfl
@[simp] theorem r_D : mD m ρ = odat (m ρ) := by
  unfold mD M.bind odat
  cases m ρ with
  | none => rfl
  | some o => cases o with
    | ex x ρ => rfl
    | ok t ρ => show M.opt t.fr ρ = (match t.fr with
      | some d => some (O.ok d ρ)
      | none => none); cases t.fr <;> rfl
@[simp] theorem r_C : mC d ρ = some (.ok (.fz d) ρ) := nr rfl
/-- a slot, looked at -/
def slV (o : Option T) (i : Nat) (ρ : Env) : Option (O T) := match o with
  | some (.fz d) => some (.ok (.fz d) ρ)
  | some t => match t.fr with
    | some d => some (.ok (.fz d) (ρ.set i (.fz d)))
    | none => none
  | none => none
@[simp] theorem r_var : mVar i ρ = slV ρ[i]? i ρ := nr rfl
@[simp] theorem slV_fz : slV (some (.fz d)) i ρ = some (.ok (.fz d) ρ) := nr rfl
@[simp] theorem slV_ol {ds : List D} : slV (some (.ol ds)) i ρ = some (.ok (.fz (.lst ds)) (ρ.set i (.fz (.lst ds)))) := nr rfl
def slM (o : Option T) (i : Nat) (ρ : Env) : Option (O T) := match o with
  | some .no => none
  | some (.fz d) => some (.ok (.fz d) ρ)
  | some t => some (.ok t (ρ.set i .no))
  | none => none
@[simp] theorem r_mv : mMv i ρ = slM ρ[i]? i ρ := nr rfl
@[simp] theorem slM_fz : slM (some (.fz d)) i ρ = some (.ok (.fz d) ρ) := nr rfl
@[simp] theorem slM_ol {ds : List D} : slM (some (.ol ds)) i ρ = some (.ok (.ol ds) (ρ.set i .no)) := nr rfl
@[simp] theorem slM_ll {ds : List T} : slM (some (.ll ds)) i ρ = some (.ok (.ll ds) (ρ.set i .no)) := nr rfl
/-- operands -/
def oev (o : Option (O D)) : Option (O (Option D)) := match o with
  | some (.ok d ρ) => some (.ok (some d) ρ)
  | some (.ex x ρ) => some (.ex x ρ)
  | none => none
@[simp] theorem oev_ok : oev (some (.ok d ρ)) = some (.ok (some d) ρ) := nr rfl
@[simp] theorem oev_ex : oev (some (.ex x ρ)) = some (.ex x ρ) := nr rfl
@[simp] theorem oev_no : oev none = none := nr rfl
@[simp] theorem r_eve : (Opd.e m).ev ρ = oev (mD m ρ) := by
  show M.bind (mD m) _ ρ = _
  unfold M.bind oev
  cases mD m ρ with
  | none => rfl
  | some o => cases o <;> rfl
def slX (o : Option T) (ρ : Env) : Option (O (Option D)) := match o with
  | some .no => none
  | some _ => some (.ok none ρ)
  | none => none
@[simp] theorem r_evv : (Opd.v i).ev ρ = slX ρ[i]? ρ := nr rfl
@[simp] theorem slX_fz : slX (some (.fz d)) ρ = some (.ok none ρ) := nr rfl
@[simp] theorem slX_ol {ds : List D} : slX (some (.ol ds)) ρ = some (.ok none ρ) := nr rfl
@[simp] theorem slX_od {ks : List Key} {ds : List D} : slX (some (.od ks ds)) ρ = some (.ok none ρ) := nr rfl
@[simp] theorem slX_oi {c : Nat} {ns : List Str} {ts : List T} : slX (some (.oi c ns ts)) ρ = some (.ok none ρ) := nr rfl
@[simp] theorem r_gete {z : Option D} : (Opd.e m).get z ρ = z := nr rfl
def slG (o : Option T) : Option D := match o with
  | some t => t.vw
  | none => none
@[simp] theorem r_getv {z : Option D} : (Opd.v i).get z ρ = slG ρ[i]? := nr rfl
@[simp] theorem slG_fz : slG (some (.fz d)) = some d := nr rfl
@[simp] theorem slG_ol {ds : List D} : slG (some (.ol ds)) = some (.lst ds) := nr rfl
@[simp] theorem slG_od {ks : List Key} {ds : List D} : slG (some (.od ks ds)) = some (.dic ks ds) := nr rfl
def og2 (g : D → D → Option T) (a b : Option D) (ρ : Env) : Option (O T) := match a, b with
  | some d, some e => (g d e).map fun t => .ok t ρ
  | _, _ => none
@[simp] theorem og2_s {g : D → D → Option T} {d e : D} : og2 g (some d) (some e) ρ = (g d e).map fun t => .ok t ρ := nr rfl
theorem opt_map {a : Option α} : M.opt a ρ = a.map fun t => .ok t ρ := by cases a <;> rfl
@[simp] theorem r_bin {g : D → D → Option T} : mBin g p q ρ = obnd (p.ev ρ) fun x => fun ρ1 => obnd (q.ev ρ1) fun y => fun ρ2 => og2 g (p.get x ρ2) (q.get y ρ2) ρ2 := by
  unfold mBin
  refine congrArg (obnd _) ?_
  funext x ρ1
  refine congrArg (obnd _) ?_
  funext y ρ2
  show (match p.get x ρ2, q.get y ρ2 with
    | some d, some e => M.opt (g d e) ρ2
    | _, _ => none) = _
  unfold og2
  cases p.get x ρ2 with
  | none => rfl
  | some d => cases q.get y ρ2 with
    | none => rfl
    | some e => exact opt_map
def og1 (g : D → Option T) (a : Option D) (ρ : Env) : Option (O T) := match a with
  | some d => (g d).map fun t => .ok t ρ
  | _ => none
@[simp] theorem og1_s {g : D → Option T} {d : D} : og1 g (some d) ρ = (g d).map fun t => .ok t ρ := nr rfl
@[simp] theorem r_un {g : D → Option T} : mUn g p ρ = obnd (p.ev ρ) fun x => fun ρ1 => og1 g (p.get x ρ1) ρ1 := by
  unfold mUn
  refine congrArg (obnd _) ?_
  funext x ρ1
  show (match p.get x ρ1 with
    | some d => M.opt (g d) ρ1
    | _ => none) = _
  unfold og1
  cases p.get x ρ1 with
  | none => rfl
  | some d => exact opt_map
def otr (a : Option D) (ρ : Env) : Option (O Bool) := match a with
  | some d => d.tru.map fun b => .ok b ρ
  | _ => none
@[simp] theorem otr_s {d : D} : otr (some d) ρ = d.tru.map fun b => .ok b ρ := nr rfl
@[simp] theorem r_tru : mTru p ρ = obnd (p.ev ρ) fun x => fun ρ1 => otr (p.get x ρ1) ρ1 := by
  unfold mTru
  refine congrArg (obnd _) ?_
  funext x ρ1
  show (match p.get x ρ1 with
    | some d => M.opt d.tru ρ1
    | _ => none) = _
  unfold otr
  cases p.get x ρ1 with
  | none => rfl
  | some d => exact opt_map
@[simp] theorem r_not : mNot p ρ = obnd (mTru p ρ) fun b => mC (.bl (!b)) := nr rfl
@[simp] theorem r_bool : mBool m ρ = obnd (mD m ρ) isB := nr rfl
@[simp] theorem r_isB {b : Bool} : isB (.bl b) ρ = some (.ok b ρ) := nr rfl
@[simp] theorem r_if : mIf t m n ρ = obnd (t ρ) fun b => cond b m n := by
  unfold mIf
  refine congrArg (obnd _) ?_
  funext b
  cases b <;> rfl
def oand (o : Option (O D)) (n : M T) : Option (O T) := match o with
  | some (.ok d ρ) => d.tru.bind fun b => cond b (n ρ) (some (.ok (.fz d) ρ))
  | some (.ex x ρ) => some (.ex x ρ)
  | none => none
@[simp] theorem oand_ok : oand (some (.ok d ρ)) n = d.tru.bind fun b => cond b (n ρ) (some (.ok (.fz d) ρ)) := nr rfl
@[simp] theorem oand_ex : oand (some (.ex x ρ)) n = some (.ex x ρ) := nr rfl
@[simp] theorem oand_no : oand none n = none := nr rfl
@[simp] theorem r_and : mAnd m n ρ = oand (mD m ρ) n := by
  unfold mAnd
  show obnd _ _ = _
  cases mD m ρ with
  | none => rfl
  | some o => cases o with
    | ex x ρ => rfl
    | ok d ρ =>
      show obnd (M.opt d.tru ρ) _ = d.tru.bind _
      cases d.tru with
      | none => rfl
      | some b => cases b <;> rfl
def oor (o : Option (O D)) (n : M T) : Option (O T) := match o with
  | some (.ok d ρ) => d.tru.bind fun b => cond b (some (.ok (.fz d) ρ)) (n ρ)
  | some (.ex x ρ) => some (.ex x ρ)
  | none => none
@[simp] theorem oor_ok : oor (some (.ok d ρ)) n = d.tru.bind fun b => cond b (some (.ok (.fz d) ρ)) (n ρ) := nr rfl
@[simp] theorem oor_ex : oor (some (.ex x ρ)) n = some (.ex x ρ) := nr rfl
@[simp] theorem oor_no : oor none n = none := nr rfl
@[simp] theorem r_or : mOr m n ρ = oor (mD m ρ) n := by
  unfold mOr
  show obnd _ _ = _
  cases mD m ρ with
  | none => rfl
  | some o => cases o with
    | ex x ρ => rfl
    | ok d ρ =>
      show obnd (M.opt d.tru ρ) _ = d.tru.bind _
      cases d.tru with
      | none => rfl
      | some b => cases b <;> rfl
@[simp] theorem r_tnot : tmNot t ρ = obnd (t ρ) fun b => M.ret (!b) := nr rfl
@[simp] theorem r_tand {u : M Bool} : tmAnd t u ρ = obnd (t ρ) fun b => cond b u (M.ret false) := by
  unfold tmAnd
  refine congrArg (obnd _) ?_
  funext b
  cases b <;> rfl
@[simp] theorem r_tor {u : M Bool} : tmOr t u ρ = obnd (t ρ) fun b => cond b (M.ret true) u := by
  unfold tmOr
  refine congrArg (obnd _) ?_
  funext b
  cases b <;> rfl
def och (b : Option D) (g' : D → D → Option T) (e : D) (k : M T) (ρ : Env) : Option (O T) := match b with
  | some (.bl true) => obnd (mD k ρ) fun f => M.opt (g' e f)
  | some (.bl false) => some (.ok (.fz (.bl false)) ρ)
  | _ => none
@[simp] theorem och_t {g' : D → D → Option T} {e : D} : och (some (.bl true)) g' e k ρ = obnd (mD k ρ) fun f => M.opt (g' e f) := nr rfl
@[simp] theorem och_f {g' : D → D → Option T} {e : D} : och (some (.bl false)) g' e k ρ = some (.ok (.fz (.bl false)) ρ) := nr rfl
@[simp] theorem r_chain {g g' : D → D → Option T} : mChain g g' m n k ρ = obnd (mD m ρ) fun d => fun ρ1 => obnd (mD n ρ1) fun e => fun ρ2 => och ((g d e).bind T.fr) g' e k ρ2 := by
  unfold mChain
  refine congrArg (obnd _) ?_
  funext d ρ1
  refine congrArg (obnd _) ?_
  funext e ρ2
  show obnd (M.opt _ ρ2) _ = _
  cases (g d e).bind T.fr with
  | none => rfl
  | some b => cases b with
    | bl b => cases b <;> rfl
    | _ => rfl
/-! displays -/
@[simp] theorem r_aNil : aNil ρ = some (.ok [] ρ) := nr rfl
@[simp] theorem r_aCons {r : M (List D)} : aCons m r ρ = obnd (mD m ρ) fun d => fun ρ1 => obnd (r ρ1) fun ds => M.ret (d :: ds) := nr rfl
def ost (o : Option D) (r : M (List D)) (ρ : Env) : Option (O (List D)) := match o.bind D.items with
  | some xs => obnd (r ρ) fun ds => M.ret (xs ++ ds)
  | none => none
@[simp] theorem ost_lst {xs : List D} {r : M (List D)} : ost (some (.lst xs)) r ρ = obnd (r ρ) fun ds => M.ret (xs ++ ds) := nr rfl
@[simp] theorem ost_tup {xs : List D} {r : M (List D)} : ost (some (.tup xs)) r ρ = obnd (r ρ) fun ds => M.ret (xs ++ ds) := nr rfl
@[simp] theorem r_aStar {r : M (List D)} : aStar p r ρ = obnd (p.ev ρ) fun x => fun ρ1 => ost (p.get x ρ1) r ρ1 := by
  unfold aStar
  refine congrArg (obnd _) ?_
  funext x ρ1
  show (match p.get x ρ1 with
    | some d => _
    | none => none) = _
  unfold ost
  cases p.get x ρ1 with
  | none => rfl
  | some d => show (match d.items with
      | some xs => _
      | none => none) = (match d.items with
      | some xs => _
      | none => none); cases d.items <;> rfl
def oTup (ds : List D) (ρ : Env) : Option (O T) := if ds.length ≤ sizeLine then some (.ok (.fz (.tup ds)) ρ) else none
def oLst (ds : List D) (ρ : Env) : Option (O T) := if ds.length ≤ sizeLine then some (.ok (.ol ds) ρ) else none
theorem r_oTup {ds : List D} (h : ds.length ≤ sizeLine) : oTup ds ρ = some (.ok (.fz (.tup ds)) ρ) := if_pos h
theorem r_oLst {ds : List D} (h : ds.length ≤ sizeLine) : oLst ds ρ = some (.ok (.ol ds) ρ) := if_pos h
@[simp] theorem r_tup {r : M (List D)} : mTup r ρ = obnd (r ρ) oTup := by
  unfold mTup
  refine congrArg (obnd _) ?_
  funext ds ρ1
  unfold oTup Rx.sizeOk
  by_cases h : ds.length ≤ sizeLine
  · rw [if_pos (decide_eq_true h), if_pos h]; rfl
  · rw [if_neg (by rw [decide_eq_false h]; decide), if_neg h]; rfl
@[simp] theorem r_lst {r : M (List D)} : mLst r ρ = obnd (r ρ) oLst := by
  unfold mLst
  refine congrArg (obnd _) ?_
  funext ds ρ1
  unfold oLst Rx.sizeOk
  by_cases h : ds.length ≤ sizeLine
  · rw [if_pos (decide_eq_true h), if_pos h]; rfl
  · rw [if_neg (by rw [decide_eq_false h]; decide), if_neg h]; rfl
theorem small16 {n : Nat} (h : n ≤ 1000) : n ≤ sizeLine := Nat.le_trans h (by decide)
@[simp] theorem oTup_s {ds : List D} (h : ds.length ≤ 1000) : oTup ds ρ = some (.ok (.fz (.tup ds)) ρ) := r_oTup (small16 h)
@[simp] theorem oLst_s {ds : List D} (h : ds.length ≤ 1000) : oLst ds ρ = some (.ok (.ol ds) ρ) := r_oLst (small16 h)
/-! calls -/
def ofo (o : Option FO) (l : List Lt) (ρ : Env) : Option (O T) := match o with
  | some (.ok r outs) => some (.ok r (giveBack l outs ρ))
  | some (.ex x outs) => some (.ex x (giveBack l outs ρ))
  | none => none
@[simp] theorem ofo_ok {t : T} {l : List Lt} {outs : List T} : ofo (some (.ok t outs)) l ρ = some (.ok t (giveBack l outs ρ)) := nr rfl
@[simp] theorem ofo_ex {l : List Lt} {outs : List T} : ofo (some (.ex x outs)) l ρ = some (.ex x (giveBack l outs ρ)) := nr rfl
@[simp] theorem r_call {g : Fn} {c : M (List Lt)} : mCall g c ρ = obnd (c ρ) fun l => fun ρ1 => ofo (g (l.map Prod.snd)) l ρ1 := nr rfl
@[simp] theorem r_cNil : cNil ρ = some (.ok [] ρ) := nr rfl
@[simp] theorem r_cCons {r : M (List Lt)} : cCons m r ρ = obnd (m ρ) fun t => fun ρ1 => obnd (r ρ1) fun l => M.ret ((none, t) :: l) := nr rfl
def slC (o : Option T) (i : Nat) (r : M (List Lt)) (ρ : Env) : Option (O (List Lt)) := match o with
  | some (.fz d) => obnd (r ρ) fun l => M.ret ((none, .fz d) :: l)
  | some .no => none
  | some t => obnd (r (ρ.set i .no)) fun l => M.ret ((some i, t) :: l)
  | none => none
@[simp] theorem r_cVar {r : M (List Lt)} : cVar i r ρ = slC ρ[i]? i r ρ := nr rfl
@[simp] theorem slC_fz {r : M (List Lt)} : slC (some (.fz d)) i r ρ = obnd (r ρ) fun l => M.ret ((none, .fz d) :: l) := nr rfl
@[simp] theorem slC_ol {r : M (List Lt)} {ds : List D} : slC (some (.ol ds)) i r ρ = obnd (r (ρ.set i .no)) fun l => M.ret ((some i, .ol ds) :: l) := nr rfl
@[simp] theorem slC_ll {r : M (List Lt)} {ds : List T} : slC (some (.ll ds)) i r ρ = obnd (r (ρ.set i .no)) fun l => M.ret ((some i, .ll ds) :: l) := nr rfl
@[simp] theorem gB_n {t : T} {l : List Lt} {u : T} {ts : List T} : giveBack ((none, t) :: l) (u :: ts) ρ = giveBack l ts ρ := nr rfl
@[simp] theorem gB_s {t : T} {l : List Lt} {u : T} {ts : List T} : giveBack ((some i, t) :: l) (u :: ts) ρ = giveBack l ts (ρ.set i u) := nr rfl
@[simp] theorem gB_0 {ts : List T} : giveBack [] ts ρ = ρ := by cases ts <;> rfl
/-! slices, methods -/
@[simp] theorem r_noP : noP ρ = some (.ok none ρ) := nr rfl
@[simp] theorem r_atP : atP m ρ = obnd (mD m ρ) fun d => M.opt d.asI := nr rfl
@[simp] theorem asI_int {z : Int} : D.asI (.int z) = some z := nr rfl
def ogs (d : Option D) (l u : Option Int) (ρ : Env) : Option (O T) := match d with
  | some d => (gSl d l u).map fun t => .ok t ρ
  | none => none
@[simp] theorem ogs_s {l u : Option Int} : ogs (some d) l u ρ = (gSl d l u).map fun t => .ok t ρ := nr rfl
@[simp] theorem r_sl {lo hi : M (Option Int)} : mSl p lo hi ρ = obnd (p.ev ρ) fun x => fun ρ1 => obnd (lo ρ1) fun l => fun ρ2 => obnd (hi ρ2) fun u => fun ρ3 => ogs (p.get x ρ3) l u ρ3 := by
  unfold mSl
  refine congrArg (obnd _) ?_
  funext x ρ1
  refine congrArg (obnd _) ?_
  funext l ρ2
  refine congrArg (obnd _) ?_
  funext u ρ3
  show (match p.get x ρ3 with
    | some d => M.opt (gSl d l u) ρ3
    | none => none) = _
  unfold ogs
  cases p.get x ρ3 with
  | none => rfl
  | some d => exact opt_map
def omt (g : List D → D → Option D) (n : M T) (d : D) : M T := match d with
  | .tup xs => fun ρ => obnd (mD n ρ) fun e => M.opt ((g xs e).map .fz)
  | _ => M.opt none
@[simp] theorem omt_tup {g : List D → D → Option D} {xs : List D} : omt g n (.tup xs) ρ = obnd (mD n ρ) fun e => M.opt ((g xs e).map .fz) := nr rfl
@[simp] theorem r_mt {g : List D → D → Option D} : mMt g m n ρ = obnd (mD m ρ) (omt g n) := by
  unfold mMt
  refine congrArg (obnd _) ?_
  funext d
  cases d <;> rfl
@[simp] theorem gSl_lst {xs : List D} {lo hi : Option Int} : gSl (.lst xs) lo hi = some (.ol (cutA xs lo hi)) := nr rfl
@[simp] theorem gSl_tup {xs : List D} {lo hi : Option Int} : gSl (.tup xs) lo hi = some (.fz (.tup (cutA xs lo hi))) := nr rfl
@[simp] theorem gLen_lst {xs : List D} : gLen (.lst xs) = some (.fz (.int xs.length)) := nr rfl
@[simp] theorem gLen_tup {xs : List D} : gLen (.tup xs) = some (.fz (.int xs.length)) := nr rfl
@[simp] theorem gLen_scr {xs : List Int} : gLen (.scr xs) = some (.fz (.int xs.length)) := nr rfl
@[simp] theorem gList_tup {xs : List D} : gList (.tup xs) = some (.ol xs) := nr rfl
@[simp] theorem gList_lst {xs : List D} : gList (.lst xs) = some (.ol xs) := nr rfl
@[simp] theorem gInt_int {z : Int} : gInt (.int z) = some (.fz (.int z)) := nr rfl
@[simp] theorem gAbs_int {z : Int} : gAbs (.int z) = some (.fz (.int (if z < 0 then -z else z))) := nr rfl
@[simp] theorem gAdd_int {y z : Int} : gAdd (.int y) (.int z) = some (.fz (.int (y + z))) := nr rfl
@[simp] theorem gSub_int {y z : Int} : Rx.gSub (.int y) (.int z) = some (.fz (.int (y - z))) := nr rfl
@[simp] theorem gLt_int {y z : Int} : gLt (.int y) (.int z) = some (.fz (.bl (decide (y < z)))) := nr rfl
@[simp] theorem gLe_int {y z : Int} : gLe (.int y) (.int z) = some (.fz (.bl (decide (y ≤ z)))) := nr rfl
@[simp] theorem gGt_int {y z : Int} : gGt (.int y) (.int z) = some (.fz (.bl (decide (z < y)))) := nr rfl
@[simp] theorem gGe_int {y z : Int} : gGe (.int y) (.int z) = some (.fz (.bl (decide (z ≤ y)))) := nr rfl
theorem gMod_int {y z : Int} (h : 0 < z) : gMod (.int y) (.int z) = some (.fz (.int (y % z))) := if_pos (decide_eq_true h)
theorem gDiv_int {y z : Int} (h : 0 < z) (b : z.natAbs.log2 < 9000) : gDiv (.int y) (.int z) = some (.fz (.int (y / z))) := if_pos (by show (decide (0 < z) && decide (z.natAbs.log2 < 9000)) = true; rw [decide_eq_true h, decide_eq_true b]; rfl)
theorem gMul_int {y z : Int} (h : y.natAbs.log2 < 400000) (b : z.natAbs.log2 < 400000) : gMul (.int y) (.int z) = some (.fz (.int (y * z))) := by
  unfold gMul gMul1 gI
  dsimp only
  rw [if_pos (by unfold cLog; rw [decide_eq_true h, decide_eq_true b]; rfl)]
  rfl
theorem gCat_lst {xs ys : List D} (h : xs.length + ys.length ≤ sizeLine) : gAdd (.lst xs) (.lst ys) = some (.ol (xs ++ ys)) := by
  unfold gAdd gCatL gI
  dsimp only
  rw [if_pos h]
  rfl
theorem gCat_tup {xs ys : List D} (h : xs.length + ys.length ≤ sizeLine) : gAdd (.tup xs) (.tup ys) = some (.fz (.tup (xs ++ ys))) := by
  unfold gAdd gCatL gI gCatT
  dsimp only
  rw [if_pos h]
  rfl
@[simp] theorem tru_bl {b : Bool} : D.tru (.bl b) = some b := nr rfl
@[simp] theorem tru_int {z : Int} : D.tru (.int z) = some (z != 0) := nr rfl
@[simp] theorem tru_tup {xs : List D} : D.tru (.tup xs) = some (!xs.isEmpty) := nr rfl
@[simp] theorem tru_lst {xs : List D} : D.tru (.lst xs) = some (!xs.isEmpty) := nr rfl
@[simp] theorem fr_fz : T.fr (.fz d) = some d := nr rfl
@[simp] theorem gIsi_str {s : Str} : gIsi .str (.str s) = some (.fz (.bl true)) := nr rfl
@[simp] theorem gIsi_tup {xs : List D} : gIsi .tup (.tup xs) = some (.fz (.bl true)) := nr rfl
@[simp] theorem gIx_lst {xs : List D} {z : Int} : gIx (.lst xs) (.int z) = (atI xs z).map .fz := nr rfl
@[simp] theorem gIx_tup {xs : List D} {z : Int} : gIx (.tup xs) (.int z) = (atI xs z).map .fz := nr rfl
@[simp] theorem eqv_str {a b : Str} : D.eqv (.str a) (.str b) = decide (a = b) := nr rfl
@[simp] theorem eqv_int {a b : Int} : D.eqv (.int a) (.int b) = decide (a = b) := nr rfl
@[simp] theorem gEq_int {y z : Int} {b : Bool} : gEq b (.int y) (.int z) = some (.fz (.bl (if b then decide (y = z) else !decide (y = z)))) := nr rfl
@[simp] theorem gEq_str {y z : Str} {b : Bool} : gEq b (.str y) (.str z) = some (.fz (.bl (if b then decide (y = z) else !decide (y = z)))) := nr rfl
theorem any_str (ws : List Str) (s : Str) : (ws.map D.str).any (fun z => z.eqv (.str s)) = decide (s ∈ ws) := by
  rw [List.any_map]
  have : ((fun z => D.eqv z (.str s)) ∘ D.str) = fun w => decide (w = s) := rfl
  rw [this, List.any_eq, decide_eq_decide]
  simp
theorem all_okS (ws : List Str) : (ws.map D.str).all (okAt 60) = true := by simp [okAt]
@[simp] theorem gIn_tup {ws : List Str} {s : Str} {b : Bool} : gIn b (.str s) (.tup (ws.map .str)) = some (.fz (.bl (if b then decide (s ∈ ws) else !decide (s ∈ ws)))) := by
  unfold gIn D.items
  dsimp only
  rw [if_pos (by rw [all_okS]; rfl), any_str]
@[simp] theorem gIn_lst {ws : List Str} {s : Str} {b : Bool} : gIn b (.str s) (.lst (ws.map .str)) = some (.fz (.bl (if b then decide (s ∈ ws) else !decide (s ∈ ws)))) := by
  unfold gIn D.items
  dsimp only
  rw [if_pos (by rw [all_okS]; rfl), any_str]
theorem asBs_map' {γ : Type} (xs : List γ) (p : γ → Bool) : asBs (xs.map fun x => .bl (p x)) = some (xs.map p) := by
  induction xs with
  | nil => rfl
  | cons x r ih => rw [List.map_cons, asBs, ih]; rfl
@[simp] theorem gAll_map {γ : Type} {xs : List γ} {p : γ → Bool} : gAll (.lst (xs.map fun x => .bl (p x))) = some (.fz (.bl (xs.all p))) := by
  unfold gAll
  dsimp only
  rw [asBs_map']
  show some (T.fz (.bl ((xs.map p).all id))) = _
  rw [List.all_map]; rfl
/-! statements -/
def obs (o : Option (O α)) (f : α → MS) : Option SO := match o with
  | some (.ok a ρ) => f a ρ
  | some (.ex x ρ) => some (.ex x ρ)
  | none => none
@[simp] theorem obs_ok {a : α} {f : α → MS} : obs (some (.ok a ρ)) f = f a ρ := nr rfl
@[simp] theorem obs_ex {f : α → MS} : obs (some (.ex x ρ)) f = some (.ex x ρ) := nr rfl
@[simp] theorem obs_no {f : α → MS} : obs none f = none := nr rfl
def oseq (o : Option SO) (n : MS) : Option SO := match o with
  | some (.nx ρ) => n ρ
  | o => o
@[simp] theorem oseq_nx : oseq (some (.nx ρ)) ns = ns ρ := nr rfl
@[simp] theorem oseq_rt {u : T} : oseq (some (.rt u ρ)) ns = some (.rt u ρ) := nr rfl
@[simp] theorem oseq_ex : oseq (some (.ex x ρ)) ns = some (.ex x ρ) := nr rfl
@[simp] theorem oseq_bk : oseq (some (.bk ρ)) ns = some (.bk ρ) := nr rfl
@[simp] theorem oseq_ct : oseq (some (.ct ρ)) ns = some (.ct ρ) := nr rfl
@[simp] theorem r_seq : sSeq ms ns ρ = oseq (ms ρ) ns := by
  unfold sSeq oseq
  cases ms ρ with
  | none => rfl
  | some o => cases o <;> rfl
@[simp] theorem r_skip : sSkip ρ = some (.nx ρ) := nr rfl
@[simp] theorem r_bk : sBk ρ = some (.bk ρ) := nr rfl
@[simp] theorem r_ct : sCt ρ = some (.ct ρ) := nr rfl
@[simp] theorem r_set : sSet i m ρ = obs (m ρ) fun u => fun ρ1 => (setE i u ρ1).map .nx := nr rfl
@[simp] theorem r_tgt {bd : D → Env → Option Env} : sTgt bd m ρ = obs (mD m ρ) fun d => fun ρ1 => (bd d ρ1).map .nx := nr rfl
@[simp] theorem r_do : sDo m ρ = obs (m ρ) fun _ => fun ρ1 => some (.nx ρ1) := nr rfl
@[simp] theorem r_rt : sRet m ρ = obs (m ρ) fun u => fun ρ1 => some (.rt u ρ1) := nr rfl
@[simp] theorem r_rtN : sRetN ρ = some (.rt (.fz .non) ρ) := nr rfl
@[simp] theorem r_sif : sIf t ms ns ρ = obs (t ρ) fun b => cond b ms ns := by
  unfold sIf
  refine congrArg (obs _) ?_
  funext b
  cases b <;> rfl
@[simp] theorem r_raise : sRaise i ρ = some (.ex ⟨i, none⟩ ρ) := nr rfl
@[simp] theorem r_for {it : M (List α)} {bd : α → Env → Option Env} : sFor it bd ms ρ = obs (it ρ) fun xs => loopF bd ms xs := nr rfl
/-! iterables -/
@[simp] theorem r_iD : iD m ρ = obnd (mD m ρ) fun d => M.opt d.walk := nr rfl
@[simp] theorem walk_lst {xs : List D} : D.walk (.lst xs) = some xs := nr rfl
@[simp] theorem walk_tup {xs : List D} : D.walk (.tup xs) = some xs := nr rfl
@[simp] theorem walk_scr {xs : List Int} : D.walk (.scr xs) = some (xs.map .int) := nr rfl
def rR (d : D) : Option (List D) := match d with
  | .int j => if i62 j then some (rng 0 j.toNat) else none
  | _ => none
@[simp] theorem r_iR1 : iR1 m ρ = obnd (mD m ρ) fun d => M.opt (rR d) := nr rfl
theorem i62_nat {n : Nat} (h : n ≤ 1000000) : i62 (n : Int) = true := by
  unfold i62
  rw [decide_eq_true (by omega), decide_eq_true (by omega)]
  rfl
theorem rR_nat {n : Nat} (h : n ≤ 1000000) : rR (.int (n : Int)) = some ((List.range n).map fun (i : Nat) => .int (i : Int)) := by
  unfold rR
  dsimp only
  rw [if_pos (i62_nat h)]
  unfold rng
  rw [Int.toNat_natCast]
  congr 2
  funext i
  rw [Int.zero_add]
@[simp] theorem r_iEn : iEn m ρ = obnd (mD m ρ) fun d => M.opt (d.items.map enumD) := nr rfl
@[simp] theorem items_lst {xs : List D} : D.items (.lst xs) = some xs := nr rfl
@[simp] theorem items_tup {xs : List D} : D.items (.tup xs) = some xs := nr rfl
def zR (d e : D) : Option (List (List D)) := match d, e with
  | .lst xs, .lst ys => some (zipD xs ys)
  | .tup xs, .tup ys => some (zipD xs ys)
  | _, _ => none
@[simp] theorem zR_lst {xs ys : List D} : zR (.lst xs) (.lst ys) = some (zipD xs ys) := nr rfl
@[simp] theorem zR_tup {xs ys : List D} : zR (.tup xs) (.tup ys) = some (zipD xs ys) := nr rfl
@[simp] theorem r_iZp : iZp m n ρ = obnd (mD m ρ) fun d => fun ρ1 => obnd (mD n ρ1) fun e => M.opt (zR d e) := nr rfl
@[simp] theorem r_bN {z : D} : bN i z ρ = setE i (.fz z) ρ := nr rfl
@[simp] theorem r_bNil : bNil [] ρ = some ρ := nr rfl
@[simp] theorem r_bCons {b : D → Env → Option Env} {r : List D → Env → Option Env} {ds : List D} : bCons b r (d :: ds) ρ = (b d ρ).bind (r ds) := nr rfl
@[simp] theorem r_bPr {r : List D → Env → Option Env} {ds : List D} : bPr i r ds ρ = if ds.length = i then r ds ρ else none := nr rfl
@[simp] theorem r_bTup {r : List D → Env → Option Env} {ds : List D} : bTup i r (.tup ds) ρ = if ds.length = i then r ds ρ else none := nr rfl
def setB (b : Bool) (i : Nat) (u : T) (ρ : Env) : Option Env := if b then some (ρ.set i u) else none
@[simp] theorem r_setE {u : T} : setE i u ρ = if i < ρ.length then some (ρ.set i u) else none := nr rfl
@[simp] theorem outsF_e1 {as : List Nat} {i : Nat} : outsF as i 0 ρ = [] := nr (by rw [outsF])
@[simp] theorem outsF_e2 {as : List Nat} {i n : Nat} {u : T} : outsF as i (n + 1) (u :: ρ) = (if i ∈ as then .no else u) :: outsF as (i + 1) n ρ := nr (by rw [outsF])
@[simp] theorem wipeT_e1 : wipeT ρ [] = ρ := nr (by rw [wipeT])
@[simp] theorem wipeT_e2 {v : Nat} {vs : List Nat} : wipeT ρ (v :: vs) = (wipeT ρ vs).set v .no := nr (by rw [wipeT])
@[simp] theorem backT_e1 {ρ0 : Env} : backT ρ0 ρ [] = ρ := nr (by rw [backT])
def bkT (o : Option T) (v : Nat) (ρ : Env) : Env := match o with
  | some t => ρ.set v t
  | none => ρ
@[simp] theorem bkT_s {v : Nat} {u : T} : bkT (some u) v ρ = ρ.set v u := nr rfl
@[simp] theorem bkT_n {v : Nat} : bkT none v ρ = ρ := nr rfl
@[simp] theorem backT_e2 {ρ0 : Env} {v : Nat} {vs : List Nat} : backT ρ0 ρ (v :: vs) = backT ρ0 (bkT ρ0[v]? v ρ) vs := nr rfl
/-! a whole def -/
def ofn (as : List Nat) (np : Nat) (o : Option SO) : Option FO := match o with
  | some (.rt t ρ) => some (.ok t (outsF as 0 np ρ))
  | some (.nx ρ) => some (.ok (.fz .non) (outsF as 0 np ρ))
  | some (.ex x ρ) => some (.ex x (outsF as 0 np ρ))
  | _ => none
@[simp] theorem ofn_rt {as : List Nat} {np : Nat} {u : T} : ofn as np (some (.rt u ρ)) = some (.ok u (outsF as 0 np ρ)) := nr rfl
@[simp] theorem ofn_nx {as : List Nat} {np : Nat} : ofn as np (some (.nx ρ)) = some (.ok (.fz .non) (outsF as 0 np ρ)) := nr rfl
@[simp] theorem ofn_ex {as : List Nat} {np : Nat} : ofn as np (some (.ex x ρ)) = some (.ex x (outsF as 0 np ρ)) := nr rfl
theorem r_fn {np nl : Nat} {as : List Nat} {ts : List T} (h : ts.length = np) : Rx.fnOf np nl as ms ts = ofn as np (ms (ts ++ List.replicate nl .no)) := if_pos h
/-! a comprehension whose turns leave everything else as it is -/
theorem mLc_pure {it : M (List α)} {bd : α → Env → Option Env} {t : M Bool} {m : M T} {vs : List Nat} {ρ ρ0 : Env} (xs : List α) (P : α → Bool) (g : α → D) (h1 : it ρ = some (.ok xs ρ0)) (hs : xs.length ≤ sizeLine)
    (hb : ∀ x ∈ xs, ∃ ρ1, turnLc bd t m x (wipeT ρ0 vs) = some (if P x then some (g x) else none, ρ1) ∧ wipeT ρ1 vs = wipeT ρ0 vs) (hbk : backT ρ0 (wipeT ρ0 vs) vs = ρ0) : mLc it bd t m vs ρ = some (.ok (.ol ((xs.filter P).map g)) ρ0) := by
  have loop : ∀ ys : List α, (∀ x ∈ ys, x ∈ xs) → loopLc bd t m vs ys (wipeT ρ0 vs) = some ((ys.filter P).map g, wipeT ρ0 vs) := by
    intro ys
    induction ys with
    | nil => intro _; rfl
    | cons y r ih =>
      intro hy
      obtain ⟨ρ1, e1, e2⟩ := hb y (hy y List.mem_cons_self)
      unfold loopLc
      rw [e1]
      dsimp only [Option.bind]
      rw [e2, ih fun x hx => hy x (List.mem_cons_of_mem _ hx), List.filter_cons]
      cases P y <;> rfl
  unfold mLc M.bind
  rw [h1]
  dsimp only
  rw [if_pos (show Rx.sizeOk xs.length = true from decide_eq_true hs), loop xs fun _ h => h]
  dsimp only
  rw [hbk]
theorem mLc_map {it : M (List α)} {bd : α → Env → Option Env} {m : M T} {vs : List Nat} {ρ ρ0 : Env} (xs : List α) (g : α → D) (h1 : it ρ = some (.ok xs ρ0)) (hs : xs.length ≤ sizeLine)
    (hb : ∀ x ∈ xs, ∃ ρ1, turnLc bd (M.ret true) m x (wipeT ρ0 vs) = some (some (g x), ρ1) ∧ wipeT ρ1 vs = wipeT ρ0 vs) (hbk : backT ρ0 (wipeT ρ0 vs) vs = ρ0) : mLc it bd (M.ret true) m vs ρ = some (.ok (.ol (xs.map g)) ρ0) := by
  have := mLc_pure (t := M.ret true) xs (fun _ => true) g h1 hs (fun x hx => by simpa using hb x hx) hbk
  rwa [show xs.filter (fun _ => true) = xs from List.filter_eq_self.mpr (by simp)] at this
/-- one turn -/
theorem turn_eq {bd : α → Env → Option Env} {t : M Bool} {m : M T} {x : α} {ρ ρ1 ρ2 ρ3 : Env} {b : Bool} {d : D} (h1 : bd x ρ = some ρ1) (h2 : t ρ1 = some (.ok b ρ2)) (h3 : b = true → mD m ρ2 = some (.ok d ρ3)) : turnLc bd t m x ρ = some (if b then some d else none, if b then ρ3 else ρ2) := by
  unfold turnLc
  rw [h1]
  dsimp only [Option.bind]
  rw [h2]
  cases b with
  | false => rfl
  | true => dsimp only; rw [h3 rfl]; rfl
theorem turn_same {bd : α → Env → Option Env} {t : M Bool} {m : M T} {x : α} {ρ ρ1 : Env} {b : Bool} {d : D} (h1 : bd x ρ = some ρ1) (h2 : t ρ1 = some (.ok b ρ1)) (h3 : b = true → mD m ρ1 = some (.ok d ρ1)) : turnLc bd t m x ρ = some (if b then some d else none, ρ1) := by
  rw [turn_eq h1 h2 h3]
  cases b <;> rfl
theorem turn_map {bd : α → Env → Option Env} {m : M T} {x : α} {ρ ρ1 ρ3 : Env} {d : D} (h1 : bd x ρ = some ρ1) (h3 : mD m ρ1 = some (.ok d ρ3)) : turnLc bd (M.ret true) m x ρ = some (some d, ρ3) := by
  unfold turnLc
  rw [h1]
  dsimp only [Option.bind, M.ret]
  rw [h3]
end
end Rx

namespace Rx
open PySem PySem.Spec PyProof.Rows L2 RZ PySem.W
open Lc (Tp AS And1 ButS Lv minL maxL)
/-! ### lists of words and the places in them -/
theorem ixN_nat' {n j : Nat} (hj : j < n) : ixN n (j : Int) = some j := by
  unfold ixN
  rw [if_pos (Int.natCast_nonneg j), if_pos (by omega)]; rfl
theorem atI_nat {α : Type} {xs : List α} {i : Nat} : atI xs (i : Int) = xs[i]? := by
  unfold atI
  by_cases h : i < xs.length
  · rw [ixN_nat' h]; rfl
  · have : ixN xs.length (i : Int) = none := by
      unfold ixN
      rw [if_pos (Int.natCast_nonneg i), if_neg (by omega)]
    rw [this, List.getElem?_eq_none (Nat.le_of_not_lt h)]; rfl
theorem sIx_nat {n d k : Nat} : HT.sIx n d (some (k : Int)) = min k n := HT.sIx_nat n d k
theorem cut_to {α : Type} {xs : List α} {k : Nat} : cutA xs none (some (k : Int)) = xs.take k := by
  unfold cutA
  rw [sIx_nat]
  show (xs.drop 0).take (min k xs.length - 0) = _
  rw [List.drop_zero, Nat.sub_zero]
  by_cases h : k ≤ xs.length
  · rw [Nat.min_eq_left h]
  · rw [Nat.min_eq_right (by omega), List.take_length, List.take_of_length_le (by omega)]
theorem cut_from {α : Type} {xs : List α} {k : Nat} : cutA xs (some (k : Int)) none = xs.drop k := by
  unfold cutA
  rw [sIx_nat]
  show (xs.drop (min k xs.length)).take (xs.length - min k xs.length) = _
  by_cases h : k ≤ xs.length
  · rw [Nat.min_eq_left h, List.take_of_length_le (by rw [List.length_drop]; omega)]
  · rw [Nat.min_eq_right (by omega), List.drop_of_length_le (Nat.le_refl _), List.drop_of_length_le (by omega), List.take_nil]
theorem cut_mid {α : Type} {xs : List α} {j k : Nat} : cutA xs (some (j : Int)) (some (k : Int)) = (xs.take k).drop j := by
  unfold cutA
  rw [sIx_nat, sIx_nat, List.drop_take]
  by_cases h : j ≤ xs.length
  · rw [Nat.min_eq_left h]
    by_cases h2 : k ≤ xs.length
    · rw [Nat.min_eq_left h2]
    · rw [Nat.min_eq_right (by omega), List.take_of_length_le (by rw [List.length_drop]; omega), List.take_of_length_le (by rw [List.length_drop]; omega)]
  · rw [Nat.min_eq_right (a := j) (by omega), List.drop_of_length_le (Nat.le_refl _), List.drop_of_length_le (by omega), List.take_nil, List.take_nil]
section
variable {p q : Str → Bool} {ws : List Str}
def idxs (p : Str → Bool) (ws : List Str) : List Nat := (List.range ws.length).filter fun i => p (ws.getD i "")
def dI (i : Nat) : D := .int (i : Int)
theorem idxs_get {i : Nat} (h : i < ws.length) : ws.getD i "" = ws[i] := by
  rw [List.getD_eq_getElem?_getD, List.getElem?_eq_getElem h]; rfl
theorem idxs_head : (idxs p ws).head? = if ws.findIdx p < ws.length then some (ws.findIdx p) else none := by
  unfold idxs
  rw [List.head?_filter]
  split
  · next h =>
    rw [List.find?_range_eq_some]
    refine ⟨?_, List.mem_range.mpr h, fun j hj => ?_⟩
    · rw [idxs_get h]; exact List.findIdx_getElem
    · have hjl : j < ws.length := Nat.lt_trans hj h
      rw [idxs_get hjl]
      have := List.not_of_lt_findIdx hj
      simpa using this
  · next h =>
    rw [List.find?_range_eq_none]
    intro i hi
    rw [idxs_get hi]
    have := List.not_of_lt_findIdx (p := p) (xs := ws) (i := i) (by omega)
    simpa using this
theorem idxs_asc : (idxs p ws).Pairwise (· < ·) := List.pairwise_lt_range.sublist List.filter_sublist
theorem enum_strs : enumD (ws.map .str) = (List.range ws.length).map fun i => [dI i, .str (ws.getD i "")] := by
  apply List.ext_getElem?
  intro i
  by_cases h : i < ws.length
  · rw [enumD_get (d := .str ws[i]) (by rw [List.getElem?_map, List.getElem?_eq_getElem h]; rfl), List.getElem?_map, List.getElem?_range h]
    show _ = some [dI i, .str (ws.getD i "")]
    rw [idxs_get h]; rfl
  · rw [List.getElem?_eq_none (by rw [enumD_len, List.length_map]; omega), List.getElem?_eq_none (by rw [List.length_map, List.length_range]; omega)]
/-- the least place, or the length -/
theorem min_idxs : gMinDf (.lst ((idxs p ws).map dI)) (.int (ws.length : Int)) = some (.fz (.int (ws.findIdx p : Nat))) := by
  unfold gMinDf
  have e : (idxs p ws).map dI = ((idxs p ws).map fun (i : Nat) => (i : Int)).map D.int := by rw [List.map_map]; rfl
  dsimp only
  rw [e, asIs_map]
  show some _ = _
  have hh := idxs_head (p := p) (ws := ws)
  have ha := idxs_asc (p := p) (ws := ws)
  cases z : idxs p ws with
  | nil =>
    rw [z] at hh
    rw [List.map_nil]
    dsimp only
    rw [if_pos rfl]
    split at hh
    · cases hh
    · next h =>
      have := List.findIdx_le_length (p := p) (xs := ws)
      rw [show ws.findIdx p = ws.length by omega]
  | cons x r =>
    rw [z] at hh ha
    split at hh
    · have hx : x = ws.findIdx p := Option.some.inj hh
      rw [List.map_cons]
      dsimp only
      rw [if_neg (fun h => nomatch h)]
      have := Lc.minL_of (ns := (x : Int) :: r.map fun (i : Nat) => (i : Int)) (m := (x : Int)) List.mem_cons_self fun y hy => by
        rcases List.mem_cons.mp hy with e | e
        · rw [e]; exact Int.le_refl _
        · obtain ⟨k, hk, e⟩ := List.mem_map.mp e
          have := (List.pairwise_cons.mp ha).1 k hk
          subst e
          exact Int.ofNat_le.mpr (Nat.le_of_lt this)
      rw [← this, hx]
    · cases hh
theorem filter_map' {α β : Type} {l : List α} {f : α → β} {P : β → Bool} {g : β → D} : ((l.map f).filter P).map g = (l.filter (fun x => P (f x))).map fun x => g (f x) := by
  rw [List.filter_map, List.map_map]; rfl
theorem lc_idxL {it : M (List D)} {bd : D → Rx.Env → Option Rx.Env} {t : M Bool} {m : M T} {vs : List Nat} {ρ ρ0 : Rx.Env} (l : List Nat) (P : Nat → Bool) (ρ1 : Nat → Rx.Env) (h1 : it ρ = some (.ok (l.map dI) ρ0)) (hn : l.length ≤ 1000)
    (hb : ∀ i ∈ l, bd (dI i) (wipeT ρ0 vs) = some (ρ1 i) ∧ t (ρ1 i) = some (.ok (P i) (ρ1 i)) ∧ mD m (ρ1 i) = some (.ok (dI i) (ρ1 i)) ∧ wipeT (ρ1 i) vs = wipeT ρ0 vs) (hbk : backT ρ0 (wipeT ρ0 vs) vs = ρ0) : mLc it bd t m vs ρ = some (.ok (.ol ((l.filter P).map dI)) ρ0) := by
  have := mLc_pure (t := t) (m := m) (l.map dI) (fun d => match d with
    | .int i => P i.toNat
    | _ => false) (fun d => d) h1 (small16 (by rw [List.length_map]; exact hn)) (fun x hx => by
      obtain ⟨i, hi, rfl⟩ := List.mem_map.mp hx
      obtain ⟨a, b, c, e⟩ := hb i hi
      exact ⟨ρ1 i, turn_same (b := P i) (d := dI i) a b fun _ => c, e⟩) hbk
  rw [filter_map'] at this
  exact this
theorem ix_word {i : Nat} (h : i < ws.length) : gIx (.tup (ws.map .str)) (dI i) = some (.fz (.str (ws.getD i ""))) := by
  rw [idxs_get h]
  show (atI (ws.map .str) (i : Int)).map T.fz = _
  rw [atI_nat, List.getElem?_map, List.getElem?_eq_getElem h]; rfl
theorem ix_wordL {i : Nat} (h : i < ws.length) : gIx (.lst (ws.map .str)) (dI i) = some (.fz (.str (ws.getD i ""))) := by
  rw [idxs_get h]
  show (atI (ws.map .str) (i : Int)).map T.fz = _
  rw [atI_nat, List.getElem?_map, List.getElem?_eq_getElem h]; rfl
theorem rR_dI {n : Nat} (h : n ≤ 1000000) : rR (dI n) = some ((List.range n).map dI) := rR_nat h
theorem rR_len {n : Nat} (h : n ≤ 1000000) : rR (.int (n : Int)) = some ((List.range n).map dI) := rR_nat h
@[simp] theorem ix_0 {x : D} {r : List D} : gIx (.lst (x :: r)) (.int 0) = some (.fz x) := by
  show (atI (x :: r) ((0 : Nat) : Int)).map T.fz = _
  rw [atI_nat]; rfl
@[simp] theorem atI_0 {α : Type} {x : α} {r : List α} : atI (x :: r) 0 = some x := by
  show atI (x :: r) ((0 : Nat) : Int) = _
  rw [atI_nat]; rfl
theorem dec_cast (a b : Nat) : decide ((a : Int) < (b : Int)) = decide (a < b) := decide_eq_decide.mpr Int.ofNat_lt
@[simp] theorem gLt_dI {a b : Nat} : gLt (dI a) (dI b) = some (.fz (.bl (decide (a < b)))) := by
  rw [← dec_cast]; rfl
@[simp] theorem gGt_dI {a b : Nat} : gGt (dI a) (dI b) = some (.fz (.bl (decide (b < a)))) := by
  rw [← dec_cast]; rfl
@[simp] theorem gAdd_dI {a b : Nat} : gAdd (dI a) (.int (b : Int)) = some (.fz (dI (a + b))) := nr rfl
@[simp] theorem gAdd_dI1 {a : Nat} : gAdd (dI a) (.int 1) = some (.fz (dI (a + 1))) := nr rfl
@[simp] theorem asI_dI {a : Nat} : D.asI (dI a) = some (a : Int) := nr rfl
theorem lc_enum {it : M (List (List D))} {bd : List D → Rx.Env → Option Rx.Env} {t : M Bool} {m : M T} {vs : List Nat} {ρ ρ0 : Rx.Env} (ws : List Str) (P : Str → Bool) (ρ1 : Nat → Rx.Env) (h1 : it ρ = some (.ok (enumD (ws.map .str)) ρ0)) (hn : ws.length ≤ 1000)
    (hb : ∀ i, i < ws.length → bd [dI i, .str (ws.getD i "")] (wipeT ρ0 vs) = some (ρ1 i) ∧ t (ρ1 i) = some (.ok (P (ws.getD i "")) (ρ1 i)) ∧ mD m (ρ1 i) = some (.ok (dI i) (ρ1 i)) ∧ wipeT (ρ1 i) vs = wipeT ρ0 vs) (hbk : backT ρ0 (wipeT ρ0 vs) vs = ρ0) : mLc it bd t m vs ρ = some (.ok (.ol ((idxs P ws).map dI)) ρ0) := by
  rw [enum_strs] at h1
  have := mLc_pure (t := t) (m := m) ((List.range ws.length).map fun i => [dI i, .str (ws.getD i "")]) (fun x => match x with
    | [_, .str w] => P w
    | _ => false) (fun x => x.headD .non) h1 (small16 (by rw [List.length_map, List.length_range]; exact hn)) (fun x hx => by
      obtain ⟨i, hi, rfl⟩ := List.mem_map.mp hx
      obtain ⟨a, b, c, e⟩ := hb i (List.mem_range.mp hi)
      exact ⟨ρ1 i, turn_same (b := P (ws.getD i "")) (d := dI i) a b fun _ => c, e⟩) hbk
  rw [filter_map'] at this
  exact this
theorem lc_map {α : Type} {it : M (List α)} {bd : α → Rx.Env → Option Rx.Env} {m : M T} {vs : List Nat} {ρ ρ0 : Rx.Env} (l : List Nat) (f : Nat → α) (g : Nat → D) (ρ1 : Nat → Rx.Env) (h1 : it ρ = some (.ok (l.map f) ρ0)) (hn : l.length ≤ 1000)
    (hb : ∀ i ∈ l, bd (f i) (wipeT ρ0 vs) = some (ρ1 i) ∧ mD m (ρ1 i) = some (.ok (g i) (ρ1 i)) ∧ wipeT (ρ1 i) vs = wipeT ρ0 vs) (hbk : backT ρ0 (wipeT ρ0 vs) vs = ρ0) : mLc it bd (M.ret true) m vs ρ = some (.ok (.ol (l.map g)) ρ0) := by
  have loop : ∀ ys : List Nat, (∀ x ∈ ys, x ∈ l) → loopLc bd (M.ret true) m vs (ys.map f) (wipeT ρ0 vs) = some (ys.map g, wipeT ρ0 vs) := by
    intro ys
    induction ys with
    | nil => intro _; rfl
    | cons y r ih =>
      intro hy
      obtain ⟨e1, e2, e3⟩ := hb y (hy y List.mem_cons_self)
      rw [List.map_cons]
      unfold loopLc
      rw [turn_map e1 e2]
      dsimp only [Option.bind]
      rw [e3, ih fun x hx => hy x (List.mem_cons_of_mem _ hx)]
      rfl
  unfold mLc M.bind
  rw [h1]
  dsimp only
  rw [if_pos (show Rx.sizeOk (l.map f).length = true from decide_eq_true (small16 (by rw [List.length_map]; exact hn))), loop l fun _ h => h]
  dsimp only
  rw [hbk]
theorem cut_mid1 {α : Type} {xs : List α} {j k : Nat} : cutA xs (some ((j : Int) + 1)) (some (k : Int)) = (xs.take k).drop (j + 1) := cut_mid (j := j + 1)
theorem cut_from1 {α : Type} {xs : List α} : cutA xs (some 1) none = xs.drop 1 := cut_from (k := 1)
theorem zip_next (S : List Nat) (L : Nat) : zipD (S.map dI) (((S.drop 1) ++ [L]).map dI) = (List.range S.length).map fun k => [dI ((S ++ [L]).getD k 0), dI ((S ++ [L]).getD (k + 1) 0)] := by
  apply List.ext_getElem?
  intro i
  by_cases h : i < S.length
  · rw [List.getElem?_map, List.getElem?_range h]
    have h1 : (S ++ [L])[i]? = some S[i] := by rw [List.getElem?_append_left h, List.getElem?_eq_getElem h]
    have h2 : ∃ z, (S ++ [L])[i + 1]? = some z := ⟨_, List.getElem?_eq_getElem (by rw [List.length_append]; simp; omega)⟩
    obtain ⟨z, hz⟩ := h2
    have h3 : ((S.drop 1) ++ [L])[i]? = some z := by
      rw [← hz]
      cases S with
      | nil => cases h
      | cons a r => simp
    rw [zipD_get (d := dI S[i]) (e := dI z) (by rw [List.getElem?_map, List.getElem?_eq_getElem h]; rfl) (by rw [List.getElem?_map, h3]; rfl)]
    show _ = some [dI ((S ++ [L]).getD i 0), dI ((S ++ [L]).getD (i + 1) 0)]
    rw [List.getD_eq_getElem?_getD, List.getD_eq_getElem?_getD, h1, hz]
    rfl
  · rw [List.getElem?_eq_none (by rw [zipD_len, List.length_map]; exact Nat.le_trans (Nat.min_le_left _ _) (Nat.le_of_not_lt h)), List.getElem?_eq_none (by rw [List.length_map, List.length_range]; exact Nat.le_of_not_lt h)]
end
end Rx

namespace Rx
open PySem PySem.Spec PyProof.Rows L2 RZ PySem.W
open Lc (Tp AS And1 ButS Lv minL maxL)
section
variable {ρ : Rx.Env} {m n : M T} {i : Nat} {d : D}
@[simp] theorem isOl_eq : isOl i ρ = (match ρ[i]? with
  | some (.ol _) => true
  | _ => false) := nr rfl
def oput (i : Nat) (d : D) (k : D) (ρ : Rx.Env) : Option SO := match ρ[i]?, k with
  | some (.ol ds), .int j => match ixN ds.length j with
    | some jj => some (.nx (ρ.set i (.ol (ds.set jj d))))
    | none => none
  | _, _ => none
@[simp] theorem r_put : sPut i n m ρ = obs (mD m ρ) fun d => fun ρ1 => if isOl i ρ1 then obs (mD n ρ1) (oput i d) else none := nr rfl
theorem oput_nat {ds : List D} {j : Nat} (h : ρ[i]? = some (.ol ds)) (hj : j < ds.length) : oput i d (dI j) ρ = some (.nx (ρ.set i (.ol (ds.set j d)))) := by
  unfold oput dI
  rw [h]
  dsimp only
  rw [ixN_nat' hj]
def oins (i : Nat) (k : D) (e : D) (ρ : Rx.Env) : Option SO := match ρ[i]?, k with
  | some (.ol ds), .int k => if ds.length < sizeLine ∧ 0 ≤ k ∧ k < 2 ^ 63 then some (.nx (ρ.set i (.ol (insAt ds k.toNat e)))) else none
  | _, _ => none
@[simp] theorem r_ins : sIns i m n ρ = if isOl i ρ then obs (mD m ρ) (fun d => fun ρ1 => obs (mD n ρ1) (oins i d)) else none := nr rfl
theorem oins_nat {ds : List D} {k : Nat} {e : D} (h : ρ[i]? = some (.ol ds)) (hl : ds.length ≤ 1000) (hk : k ≤ 1000) : oins i (dI k) e ρ = some (.nx (ρ.set i (.ol (insAt ds k e)))) := by
  unfold oins dI
  rw [h]
  dsimp only
  have : ds.length < sizeLine := Nat.lt_of_le_of_lt hl (by decide)
  rw [if_pos ⟨this, Int.natCast_nonneg k, by omega⟩]
  rfl
theorem log_small {z : Int} (h : z.natAbs < 2 ^ 90) : z.natAbs.log2 < 400000 := by
  by_cases e : z.natAbs = 0
  · rw [e]; decide
  · exact Nat.lt_trans ((Nat.log2_lt e).mpr h) (by decide)
theorem mul_small {y z : Int} (h : y.natAbs < 2 ^ 90) (b : z.natAbs < 2 ^ 90) : gMul (.int y) (.int z) = some (.fz (.int (y * z))) := gMul_int (log_small h) (log_small b)
theorem div_small {y z : Int} (h : 0 < z) (b : z.natAbs < 2 ^ 90) : gDiv (.int y) (.int z) = some (.fz (.int (y / z))) := gDiv_int h (by
  by_cases e : z.natAbs = 0
  · rw [e]; decide
  · exact Nat.lt_trans ((Nat.log2_lt e).mpr b) (by decide))
/-! ### the pot of cells -/
def primes11 : List Int := [1000003, 1000033, 1000037, 1000039, 1000081, 1000099, 1000117, 1000121, 1000133, 1000151, 1000159]
theorem primes_pos : ∀ j, j < 11 → ∃ p, primes11[j]? = some p ∧ 0 < p ∧ p < 2000000 := by decide
/-- a pot of which at most k draws were made -/
def Pot (k : Nat) (x : T) : Prop := ∃ (cs : List Int) (t : Nat), x = .ll [.ol (cs.map .int), .fz (.int (t : Int))] ∧ 0 < cs.length ∧ cs.length ≤ 63 ∧ (∀ c ∈ cs, 0 ≤ c) ∧ t ≤ k
end
end Rx

namespace K48
open PySem PySem.Spec PyProof.Rows L2 RZ PySem.W Rx
open Lc (Tp AS And1 ButS Lv minL maxL)
def ct_LaneError : Nat → Option Bool := fun n => match n with
  | 1 => some true
  | _ => none
def tb_BadCase : Nat → Option Bool := fun n => match n with
  | 1 => some true
  | _ => none
def tb_ValueError : Nat → Option Bool := fun n => match n with
  | 1 => some true
  | _ => none
noncomputable def p_is_word : MS :=
    (sRet (mAnd (mUn (gIsi .str) (.v 0)) (mBin (gIn true) (.v 0) (.v 1))))
noncomputable def f_is_word : Fn := fnOf 2 0 [] p_is_word
noncomputable def p_is_row : MS :=
    (sRet (mAnd (mUn (gIsi .tup) (.v 0)) (mChain gLe gLe (mVar 1) (mUn gLen (.v 0)) (mVar 2))))
noncomputable def f_is_row : Fn := fnOf 3 0 [] p_is_row
noncomputable def p_words_ahead : MS :=
    (sSeq (sSet 2 (mLc (iEn (mVar 0)) (bPr 2 (bCons (bN 3) (bCons (bN 4) bNil))) (mBool (mBin (gIn true) (.v 4) (.v 1))) (mVar 3) [3, 4]))
    (sRet (mSl (.v 0) noP (atP ((mD (mVar 2)).bind fun d => (mD (mUn gLen (.v 0))).bind fun z => M.opt (gMinDf d z))))))
noncomputable def f_words_ahead : Fn := fnOf 2 3 [2] p_words_ahead
def p_law_draw : MS :=
    (sSeq (sSet 4 (mBin gMod (.e (mUn gInt (.v 3))) (.e (mUn gLen (.v 2)))))
    (sSeq (sSet 5 (mBin gIx (.v 2) (.v 4)))
    (sSeq (sIf (mBool (mBin gGe (.v 5) (.e (mBin gPow (.e (mC (.int 10))) (.e (mC (.int 18)))))))
    (sSeq (sPut 2 (mVar 4) (mBin gDiv (.v 5) (.v 1)))
    (sRet (mBin gMod (.e (mUn gInt (.v 5))) (.v 1))))
    sSkip)
    (sSeq (sSet 6 (mLst (aCons (mC (.int 1000003)) (aCons (mC (.int 1000033)) (aCons (mC (.int 1000037)) (aCons (mC (.int 1000039)) (aCons (mC (.int 1000081)) (aCons (mC (.int 1000099)) (aCons (mC (.int 1000117)) (aCons (mC (.int 1000121)) (aCons (mC (.int 1000133)) (aCons (mC (.int 1000151)) (aCons (mC (.int 1000159)) aNil)))))))))))))
    (sSeq (sSet 7 (mBin gMod (.e (mUn gInt (.e (mBin gMul (.e (mBin gAdd (.e (mBin gAdd (.v 5) (.e (mBin gMul (.e (mC (.int 7919))) (.v 3))))) (.e (mC (.int 31))))) (.e (mBin gAdd (.e (mC (.int 48271))) (.e (mBin gMul (.e (mC (.int 2))) (.v 3))))))))) (.e (mC (.int 2147483647)))))
    (sSeq (sSet 7 (mBin gMod (.e (mUn gInt (.e (mBin gAdd (.e (mBin gAdd (.e (mBin gMul (.v 7) (.v 7))) (.e (mBin gMul (.e (mC (.int 69621))) (.v 7))))) (.v 3))))) (.e (mBin gIx (.v 6) (.e (mBin gMod (.e (mUn gInt (.v 3))) (.e (mC (.int 11)))))))))
    (sRet (mBin gMod (.e (mUn gInt (.e (mBin gDiv (.v 7) (.e (mC (.int 5))))))) (.v 1)))))))))
def f_law_draw : Fn := drawF p_law_draw
noncomputable def p_law_pot : MS :=
    (sSeq (sSet 1 (mLc (iD (mVar 0)) (bN 2) (M.ret true) (mUn gAbs (.v 2)) [2]))
    (sSeq (sIf (tmNot (mTru (.v 1)))
    (sSet 1 (mLst (aCons (mC (.int 0)) aNil)))
    sSkip)
    (sRet (mLl (aT (mMv 1) (aT (mC (.int 0)) (M.ret [])))))))
noncomputable def f_law_pot : Fn := fnOf 1 2 [1] p_law_pot
noncomputable def p_law_stretch_ok : MS :=
    (sSeq (sSet 1 (mLc (iR1 (mUn gLen (.v 0))) (bN 5) (mBool (mBin (gIn true) (.e (mBin gIx (.v 0) (.v 5))) (.e (mLst (aCons (mC (.str "tell")) (aCons (mC (.str "open")) (aCons (mC (.str "copy")) aNil))))))) (mVar 5) [5]))
    (sSeq (sSet 2 (mLc (iD (mVar 1)) (bN 5) (mBool (mBin (gEq false) (.e (mBin gIx (.v 0) (.v 5))) (.e (mC (.str "copy"))))) (mVar 5) [5]))
    (sSeq (sSet 3 (mLc (iR1 (mUn gLen (.v 0))) (bN 5) (mBool (mBin (gEq true) (.e (mBin gIx (.v 0) (.v 5))) (.e (mC (.str "close"))))) (mVar 5) [5]))
    (sSeq (sIf (tmAnd (mTru (.v 1)) (tmOr (tmNot (mTru (.v 3))) (mBool (mBin gGt (.e (mBin gIx (.v 3) (.e (mC (.int 0))))) (.e (mBin gIx (.v 1) (.e (mC (.int 0)))))))))
    (sRet (mC (.bl false)))
    sSkip)
    (sSeq (sIf (mTru (.v 2))
    (sSeq (sSet 4 (mLc (iR1 (mBin gIx (.v 2) (.e (mC (.int 0))))) (bN 5) (tmAnd (mBool (mBin (gEq true) (.e (mBin gIx (.v 0) (.v 5))) (.e (mC (.str "drain"))))) (mBool (mBin gLt (.e (mBin gIx (.v 3) (.e (mC (.int 0))))) (.v 5)))) (mVar 5) [5]))
    (sRet (mBin gGt (.e (mUn gLen (.v 4))) (.e (mC (.int 0))))))
    sSkip)
    (sRet (mC (.bl true))))))))
noncomputable def f_law_stretch_ok : Fn := fnOf 1 5 [1, 2, 3, 4] p_law_stretch_ok
noncomputable def p_is_plan : MS :=
    (sSeq (sIf (tmNot (mTru (.e (mCall f_is_row (cVar 0 (cCons (mC (.int 1)) (cCons (mC (.int 15)) cNil)))))))
    (sRet (mC (.bl false)))
    sSkip)
    (sRet (mAnd (mUn gAll (.e (mLc (iD (mVar 0)) (bN 1) (M.ret true) (mCall f_is_word (cVar 1 (cCons (mC (.tup [(.str "show"), (.str "tell"), (.str "agree"), (.str "close"), (.str "clear"), (.str "drain"), (.str "copy"), (.str "open"), (.str "drop")])) cNil))) [1]))) (mChain gLe gLe (mC (.int 1)) (mMt gTCnt (mVar 0) (mC (.str "show"))) (mC (.int 2))))))
noncomputable def f_is_plan : Fn := fnOf 1 1 [] p_is_plan
noncomputable def p_is_fenced_part : MS :=
    (sSeq (sSet 1 (mCall f_words_ahead (cVar 0 (cCons (mTup (aCons (mC (.str "tell")) (aCons (mC (.str "open")) (aCons (mC (.str "copy")) aNil)))) cNil))))
    (sSeq (sIf (tmAnd (mBool (mBin gLt (.e (mUn gLen (.v 1))) (.e (mUn gLen (.v 0))))) (mBool (mBin (gIn false) (.e (mC (.str "close"))) (.v 1))))
    (sRet (mC (.bl false)))
    sSkip)
    (sSeq (sSet 1 (mCall f_words_ahead (cVar 0 (cCons (mTup (aCons (mC (.str "tell")) (aCons (mC (.str "open")) aNil))) cNil))))
    (sSeq (sIf (mBool (mBin (gEq true) (.e (mUn gLen (.v 1))) (.e (mUn gLen (.v 0)))))
    (sRet (mC (.bl true)))
    sSkip)
    (sRet (mBin (gIn true) (.e (mC (.str "drain"))) (.e (mSl (.v 1) (atP (mMt gTIx (mVar 1) (mC (.str "close")))) noP))))))))
noncomputable def f_is_fenced_part : Fn := fnOf 1 1 [1] p_is_fenced_part
noncomputable def p_law_fenced : MS :=
    (sSeq (sSet 1 (mBin gAdd (.e (mLc (iR1 (mUn gLen (.v 0))) (bN 2) (mBool (mBin (gEq true) (.e (mBin gIx (.v 0) (.v 2))) (.e (mC (.str "show"))))) (mVar 2) [2])) (.e (mLst (aCons (mUn gLen (.v 0)) aNil)))))
    (sRet (mUn gAll (.e (mLc (iR1 (mBin Rx.gSub (.e (mUn gLen (.v 1))) (.e (mC (.int 1))))) (bN 2) (M.ret true) (mCall f_law_stretch_ok (cCons (mSl (.v 0) (atP (mBin gAdd (.e (mBin gIx (.v 1) (.v 2))) (.e (mC (.int 1))))) (atP (mBin gIx (.v 1) (.e (mBin gAdd (.v 2) (.e (mC (.int 1)))))))) cNil)) [2])))))
noncomputable def f_law_fenced : Fn := fnOf 1 2 [1] p_law_fenced
noncomputable def p_law_drawn_plan : MS :=
    (sSeq (sSet 1 (mLst (aCons (mC (.str "tell")) (aCons (mC (.str "agree")) (aCons (mC (.str "close")) (aCons (mC (.str "clear")) (aCons (mC (.str "drain")) (aCons (mC (.str "copy")) (aCons (mC (.str "open")) (aCons (mC (.str "drop")) aNil))))))))))
    (sSeq (sIf (mBool (mBin (gEq true) (.e (mCall f_law_draw (cVar 0 (cCons (mC (.int 2)) cNil)))) (.e (mC (.int 0)))))
    (sSeq (sSet 2 (mLc (iR1 (mCall f_law_draw (cVar 0 (cCons (mC (.int 14)) cNil)))) (bN 6) (M.ret true) (mBin gIx (.v 1) (.e (mCall f_law_draw (cVar 0 (cCons (mC (.int 8)) cNil))))) [6]))
    (sSeq (sFor (iR1 (mBin gAdd (.e (mC (.int 1))) (.e (mCall f_law_draw (cVar 0 (cCons (mC (.int 2)) cNil)))))) (bN 3)
    (sIns 2 (mCall f_law_draw (cVar 0 (cCons (mBin gAdd (.e (mUn gLen (.v 2))) (.e (mC (.int 1)))) cNil))) (mC (.str "show"))))
    (sRet (mUn gTupOf (.v 2)))))
    sSkip)
    (sSeq (sSet 2 (mLc (iR1 (mCall f_law_draw (cVar 0 (cCons (mC (.int 3)) cNil)))) (bN 6) (M.ret true) (mBin gIx (.v 1) (.e (mCall f_law_draw (cVar 0 (cCons (mC (.int 8)) cNil))))) [6]))
    (sSeq (sFor (iR1 (mBin gAdd (.e (mC (.int 1))) (.e (mCall f_law_draw (cVar 0 (cCons (mC (.int 2)) cNil)))))) (bN 3)
    (sSeq (sSet 4 (mLst (aCons (mC (.str "show")) (aCons (mC (.str "close")) (aCons (mC (.str "drain")) (aCons (mBin gIx (.e (mLst (aCons (mC (.str "tell")) (aCons (mC (.str "open")) aNil)))) (.e (mCall f_law_draw (cVar 0 (cCons (mC (.int 2)) cNil))))) aNil))))))
    (sSeq (sIns 4 (mBin gAdd (.e (mC (.int 1))) (.e (mCall f_law_draw (cVar 0 (cCons (mC (.int 4)) cNil))))) (mBin gIx (.v 1) (.e (mCall f_law_draw (cVar 0 (cCons (mC (.int 8)) cNil))))))
    (sSet 2 (mBin gAdd (.v 2) (.v 4))))))
    (sSeq (sSet 5 (mCall f_law_draw (cVar 0 (cCons (mUn gLen (.v 2)) cNil))))
    (sSeq (sIf (tmAnd (mBool (mBin gGt (.e (mCall f_law_draw (cVar 0 (cCons (mC (.int 3)) cNil)))) (.e (mC (.int 0))))) (mBool (mBin (gEq false) (.e (mBin gIx (.v 2) (.v 5))) (.e (mC (.str "show"))))))
    (sPut 2 (mVar 5) (mBin gIx (.v 1) (.e (mCall f_law_draw (cVar 0 (cCons (mC (.int 8)) cNil))))))
    sSkip)
    (sRet (mUn gTupOf (.v 2)))))))))
noncomputable def f_law_drawn_plan : Fn := fnOf 1 6 [1, 2, 3, 4, 5] p_law_drawn_plan
noncomputable def p_check_plan : MS :=
    (sIf (tmNot (mTru (.e (mCall f_is_plan (cVar 0 cNil)))))
    (sRaise 1)
    sSkip)
noncomputable def f_check_plan : Fn := fnOf 1 0 [] p_check_plan
noncomputable def p_is_fenced : MS :=
    (sSeq (sDo (mCall f_check_plan (cVar 0 cNil)))
    (sSeq (sSet 1 (mLc (iEn (mVar 0)) (bPr 2 (bCons (bN 3) (bCons (bN 4) bNil))) (mBool (mBin (gEq true) (.v 4) (.e (mC (.str "show"))))) (mVar 3) [3, 4]))
    (sSeq (sSet 2 (mLst (aStar (.e (mSl (.v 1) (atP (mC (.int 1))) noP)) (aCons (mUn gLen (.v 0)) aNil))))
    (sRet (mUn gAll (.e (mLc (iZp (mVar 1) (mVar 2)) (bPr 2 (bCons (bN 5) (bCons (bN 6) bNil))) (M.ret true) (mCall f_is_fenced_part (cCons (mSl (.v 0) (atP (mBin gAdd (.v 5) (.e (mC (.int 1))))) (atP (mVar 6))) cNil)) [5, 6])))))))
noncomputable def f_is_fenced : Fn := fnOf 1 6 [1, 2] p_is_fenced
noncomputable def p_law_refused : MS :=
    (sSeq (sSet 1 (mC (.int 0)))
    (sSeq (sTry (sDo (mCall f_is_fenced (cVar 0 cNil))) (⟨ct_LaneError, some 2, fun a xx => (sSeq (sSet 1 (mC (.int 1)))
    (sIf (tmAnd (mTru (.e (mIsx a xx tb_BadCase 2))) (mTru (.e (mIsx a xx tb_ValueError 2))))
    (sSet 1 (mC (.int 2)))
    sSkip))⟩ :: []))
    (sRet (mBin (gEq true) (.v 1) (.e (mC (.int 2)))))))
noncomputable def f_law_refused : Fn := fnOf 1 2 [1, 2] p_law_refused
noncomputable def p_law : MS :=
    (sSeq (sSet 1 (mCall f_law_pot (cVar 0 cNil)))
    (sSeq (sSet 2 (mCall f_law_drawn_plan (cVar 1 cNil)))
    (sSeq (sIf (mBool (mBin (gEq true) (.e (mCall f_law_draw (cVar 1 (cCons (mC (.int 4)) cNil)))) (.e (mC (.int 1)))))
    (sSeq (sSet 3 (mLst (aCons (mUn gList (.v 2)) (aCons (mBin gAdd (.v 2) (.e (mBin gMul (.e (mTup (aCons (mC (.str "show")) aNil))) (.e (mC (.int 3)))))) (aCons (mBin gAdd (.v 2) (.e (mTup (aCons (mC (.str "shut")) aNil)))) (aCons (mBin gAdd (.v 2) (.e (mTup (aCons (mC (.int 0)) aNil)))) (aCons (mTup aNil) (aCons (mC .non) (aCons (mC (.str "show")) (aCons (mC (.int 0)) aNil))))))))))
    (sSeq (sSet 3 (mBin gAdd (.v 3) (.e (mLst (aCons (mTup (aCons (mC (.str "open")) (aCons (mC (.str "tell")) aNil))) (aCons (mTup (aCons (mVar 2) aNil)) (aCons (mTup (aCons (mC (.str "show")) (aCons (mC .non) aNil))) (aCons (mTup (aCons (mC (.str "Show")) aNil)) (aCons (mTup (aCons (mC (.bl true)) aNil)) (aCons (mBin gAdd (.e (mTup (aCons (mC (.str "show")) aNil))) (.e (mBin gMul (.e (mTup (aCons (mC (.str "open")) aNil))) (.e (mC (.int 15)))))) aNil))))))))))
    (sSeq (sSet 3 (mBin gAdd (.v 3) (.e (mLst (aCons (mTup (aCons (mC (.str "show")) (aCons (mTup (aCons (mC (.str "open")) aNil)) aNil))) aNil)))))
    (sRet (mCall f_law_refused (cCons (mBin gIx (.v 3) (.e (mCall f_law_draw (cVar 1 (cCons (mC (.int 15)) cNil))))) cNil))))))
    sSkip)
    (sSeq (sSet 4 (mCall f_is_fenced (cVar 2 cNil)))
    (sRet (mAnd (mUn (gIsi .bool) (.v 4)) (mBin (gEq true) (.v 4) (.e (mCall f_law_fenced (cVar 2 cNil))))))))))
noncomputable def f_law : Fn := fnOf 1 4 [1, 2, 3, 4] p_law
end K48

namespace K48
open PySem PySem.Spec PyProof.Rows L2 RZ PySem.W Rx
def WORDSs : List Str := ["show", "tell", "agree", "close", "clear", "drain", "copy", "open", "drop"]
/-- a datum whose type is a plain one -/
def simpleD (d : D) : Prop := ∃ b, Ty.of .str d = some b
def isTupB : D → Bool
  | .tup _ => true
  | _ => false
theorem simple_tup {d : D} (h : simpleD d) : gIsi .tup d = some (.fz (.bl (isTupB d))) := by
  obtain ⟨b, h⟩ := h
  cases d <;> first | rfl | cases h
def isWordB (ws : List Str) : D → Bool
  | .str s => decide (s ∈ ws)
  | _ => false
def isStrB : D → Bool
  | .str _ => true
  | _ => false
theorem simple_str {d : D} (h : simpleD d) : gIsi .str d = some (.fz (.bl (isStrB d))) := by
  obtain ⟨b, h⟩ := h
  cases d <;> first | rfl | cases h
theorem sp_is_row (xs : List D) (a b : Int) : f_is_row [.fz (.tup xs), .fz (.int a), .fz (.int b)] = some (.ok (.fz (.bl (decide (a ≤ xs.length) && decide ((xs.length : Int) ≤ b)))) [.fz (.tup xs), .fz (.int a), .fz (.int b)]) := by
  unfold f_is_row p_is_row
  refine (r_fn rfl).trans ?_
  by_cases h : a ≤ (xs.length : Int) <;> simp [h]
theorem sp_is_row_no {d : D} (h : simpleD d) (n : isTupB d = false) (a b : Int) : f_is_row [.fz d, .fz (.int a), .fz (.int b)] = some (.ok (.fz (.bl false)) [.fz d, .fz (.int a), .fz (.int b)]) := by
  unfold f_is_row p_is_row
  refine (r_fn rfl).trans ?_
  simp [simple_tup h, n]
theorem sp_is_word {d : D} (h : simpleD d) (ws : List Str) : f_is_word [.fz d, .fz (.tup (ws.map .str))] = some (.ok (.fz (.bl (isWordB ws d))) [.fz d, .fz (.tup (ws.map .str))]) := by
  unfold f_is_word p_is_word
  refine (r_fn rfl).trans ?_
  cases hs : isStrB d with
  | false =>
    have : isWordB ws d = false := by cases d <;> first | rfl | cases hs
    simp [simple_str h, hs, this]
  | true => cases d with
    | str s => simp [isWordB]
    | _ => cases hs
def cntOk (ws : List Str) : Bool := decide (1 ≤ ((ws.countP fun y => decide (y = ("show" : Str)) : Nat) : Int)) && decide (((ws.countP fun y => decide (y = ("show" : Str)) : Nat) : Int) ≤ 2)
def isPlanB : D → Bool
  | .tup xs => (decide ((1 : Int) ≤ (xs.length : Int)) && decide ((xs.length : Int) ≤ 15)) && (xs.all (isWordB WORDSs) && match asSs xs with
    | some ws => cntOk ws
    | none => false)
  | _ => false
theorem words_strs : ∀ {xs : List D} {ws : List Str}, xs.all (isWordB ws) = true → ∃ vs, asSs xs = some vs
  | [], _, _ => ⟨[], rfl⟩
  | x :: r, ws, h => by
    rw [List.all_cons, Bool.and_eq_true] at h
    obtain ⟨vs, e⟩ := words_strs h.2
    cases x with
    | str s => exact ⟨s :: vs, by unfold asSs; rw [e]; rfl⟩
    | _ => cases h.1
theorem sp_is_plan {d : D} (h : simpleD d) (hx : ∀ xs, d = .tup xs → ∀ x ∈ xs, simpleD x) : f_is_plan [.fz d] = some (.ok (.fz (.bl (isPlanB d))) [.fz d]) := by
  unfold f_is_plan p_is_plan
  refine (r_fn rfl).trans ?_
  cases ht : isTupB d with
  | false =>
    have e : isPlanB d = false := by cases d <;> first | rfl | cases ht
    simp [sp_is_row_no h ht, e]
  | true =>
    cases d with
    | tup xs =>
      have hx := hx xs rfl
      cases hr : (decide ((1 : Int) ≤ (xs.length : Int)) && decide ((xs.length : Int) ≤ 15)) with
      | false =>
        have e : isPlanB (.tup xs) = false := by simp only [isPlanB]; rw [hr]; rfl
        simp [sp_is_row, hr, e]
      | true =>
        have hl : (xs.length : Int) ≤ 15 := by
          rw [Bool.and_eq_true] at hr
          exact of_decide_eq_true hr.2
        have hlc := mLc_map (it := iD (mVar 0)) (bd := bN 1) (m := mCall f_is_word (cVar 1 (cCons (mC (.tup (WORDSs.map .str))) cNil))) (vs := [1]) (ρ := [.fz (.tup xs), .no]) (ρ0 := [.fz (.tup xs), .no]) xs (fun x => .bl (isWordB WORDSs x)) (by simp) (small16 (by omega))
          (fun x hx' => ⟨[.fz (.tup xs), .fz x], turn_map (ρ1 := [.fz (.tup xs), .fz x]) (by simp) (by simp [sp_is_word (hx x hx') WORDSs]), by simp⟩) (by simp)
        have hW : (.tup [(.str "show"), (.str "tell"), (.str "agree"), (.str "close"), (.str "clear"), (.str "drain"), (.str "copy"), (.str "open"), (.str "drop")] : D) = .tup (WORDSs.map .str) := rfl
        rw [hW]
        have e : isPlanB (.tup xs) = (xs.all (isWordB WORDSs) && match asSs xs with
            | some ws => cntOk ws
            | none => false) := by simp only [isPlanB]; rw [hr]; rfl
        rw [e]
        cases ha : xs.all (isWordB WORDSs) with
        | false => simp [sp_is_row, hr, hlc, ha]
        | true =>
          obtain ⟨ws, hw⟩ := words_strs ha
          simp only [hw]
          by_cases h1 : (1 : Int) ≤ ((ws.countP fun y => decide (y = ("show" : Str)) : Nat) : Int) <;> simp [sp_is_row, hr, hlc, ha, gTCnt, hw, cntOk, h1]
    | _ => cases ht
theorem sp_check_plan {d : D} (h : simpleD d) (hx : ∀ xs, d = .tup xs → ∀ x ∈ xs, simpleD x) : f_check_plan [.fz d] = some (if isPlanB d then .ok (.fz .non) [.fz d] else .ex ⟨1, none⟩ [.fz d]) := by
  unfold f_check_plan p_check_plan
  refine (r_fn rfl).trans ?_
  cases e : isPlanB d <;> simp [sp_is_plan h hx, e]

end K48

namespace K48
open PySem PySem.Spec PyProof.Rows L2 RZ PySem.W Rx
theorem head_eq {p : Str → Bool} {ws : List Str} (h : ws.findIdx p < ws.length) : ∃ r, idxs p ws = ws.findIdx p :: r := by
  have hh := idxs_head (p := p) (ws := ws)
  rw [if_pos h] at hh
  cases z : idxs p ws with
  | nil => rw [z] at hh; cases hh
  | cons x r => rw [z] at hh; cases hh; exact ⟨r, rfl⟩
theorem idxs_nil {p : Str → Bool} {ws : List Str} (h : ¬ ws.findIdx p < ws.length) : idxs p ws = [] := by
  have hh := idxs_head (p := p) (ws := ws)
  rw [if_neg h] at hh
  cases z : idxs p ws with
  | nil => rfl
  | cons x r => rw [z] at hh; cases hh
def inB (os : List Str) : Str → Bool := fun w => decide (w ∈ os)
theorem sp_words_ahead {ws os : List Str} (h : ws.length ≤ 1000) : f_words_ahead [.fz (.tup (ws.map .str)), .fz (.tup (os.map .str))] = some (.ok (.fz (.tup ((ws.take (ws.findIdx (inB os))).map .str))) [.fz (.tup (ws.map .str)), .fz (.tup (os.map .str))]) := by
  unfold f_words_ahead p_words_ahead
  refine (r_fn rfl).trans ?_
  have hlc := mLc_pure (it := iEn (mVar 0)) (bd := bPr 2 (bCons (bN 3) (bCons (bN 4) bNil))) (t := mBool (mBin (gIn true) (.v 4) (.v 1))) (m := mVar 3) (vs := [3, 4]) (ρ := [.fz (.tup (ws.map .str)), .fz (.tup (os.map .str)), .no, .no, .no]) (ρ0 := [.fz (.tup (ws.map .str)), .fz (.tup (os.map .str)), .no, .no, .no])
    ((List.range ws.length).map fun i => [dI i, .str (ws.getD i "")]) (fun x => match x with | [_, .str w] => inB os w | _ => false) (fun x => x.headD .non) (by simp [enum_strs]) (small16 (by rw [List.length_map, List.length_range]; exact h)) (fun x hx => by
      obtain ⟨i, hi, rfl⟩ := List.mem_map.mp hx
      refine ⟨[.fz (.tup (ws.map .str)), .fz (.tup (os.map .str)), .no, .fz (dI i), .fz (.str (ws.getD i ""))], ?_, by simp⟩
      exact turn_same (b := inB os (ws.getD i "")) (d := dI i) (by simp) (by simp [inB]) fun _ => by simp) (by simp)
  rw [filter_map'] at hlc
  have hI : ((List.range ws.length).filter fun i => inB os (ws.getD i "")).map (fun i => ([dI i, .str (ws.getD i "")] : List D).headD .non) = (idxs (inB os) ws).map dI := rfl
  have hlc : mLc (iEn (mVar 0)) (bPr 2 (bCons (bN 3) (bCons (bN 4) bNil))) (mBool (mBin (gIn true) (.v 4) (.v 1))) (mVar 3) [3, 4] [.fz (.tup (ws.map .str)), .fz (.tup (os.map .str)), .no, .no, .no] = some (.ok (.ol ((idxs (inB os) ws).map dI)) [.fz (.tup (ws.map .str)), .fz (.tup (os.map .str)), .no, .no, .no]) := hlc
  simp [hlc, min_idxs, cut_to]
end K48

namespace K48
open PySem PySem.Spec PyProof.Rows L2 RZ PySem.W Rx
def in3 : List Str := ["tell", "open", "copy"]
def in2 : List Str := ["tell", "open"]
theorem hL3 : [D.str "tell", D.str "open", D.str "copy"] = in3.map .str := rfl
theorem hL2 : [D.str "tell", D.str "open"] = in2.map .str := rfl
theorem in_23 (w : Str) (h : inB in2 w = true) : inB in3 w = true := by
  unfold inB in2 at h
  unfold inB in3
  simp at h ⊢
  rcases h with e | e
  · exact .inl e
  · exact .inr (.inl e)
theorem hi3 : in3.length = 3 := rfl
theorem hi2 : in2.length = 2 := rfl
theorem le_32 (ws : List Str) : ws.findIdx (inB in3) ≤ ws.findIdx (inB in2) := by
  rcases Nat.lt_or_ge (ws.findIdx (inB in2)) (ws.findIdx (inB in3)) with h | h
  · have hl : ws.findIdx (inB in2) < ws.length := Nat.lt_of_lt_of_le h List.findIdx_le_length
    have h1 := List.findIdx_getElem (w := hl)
    have h2 := List.not_of_lt_findIdx h
    rw [in_23 _ h1] at h2
    cases h2
  · exact h
def partB (ws : List Str) : Bool := if ws.findIdx (inB in3) < ws.length ∧ ("close" : Str) ∉ ws.take (ws.findIdx (inB in3)) then false else if ws.findIdx (inB in2) = ws.length then true else decide (("drain" : Str) ∈ (ws.take (ws.findIdx (inB in2))).drop ((ws.take (ws.findIdx (inB in2))).idxOf ("close" : Str)))
theorem take_len (p : Str → Bool) (ws : List Str) : (ws.take (ws.findIdx p)).length = ws.findIdx p := by
  rw [List.length_take]; exact Nat.min_eq_left List.findIdx_le_length
theorem sp_part {ws : List Str} (h : ws.length ≤ 1000) : f_is_fenced_part [.fz (.tup (ws.map .str))] = some (.ok (.fz (.bl (partB ws))) [.fz (.tup (ws.map .str))]) := by
  unfold f_is_fenced_part p_is_fenced_part
  refine (r_fn rfl).trans ?_
  have l3 := take_len (inB in3) ws
  have l2 := take_len (inB in2) ws
  have a3 := sp_words_ahead (os := in3) h
  have a2 := sp_words_ahead (os := in2) h
  by_cases h1 : ws.findIdx (inB in3) < ws.length ∧ ("close" : Str) ∉ ws.take (ws.findIdx (inB in3))
  · have e : partB ws = false := if_pos h1
    rw [e]
    generalize ws.take (ws.findIdx (inB in3)) = W3 at *
    simp [hi3, hi2, a3, hL3, h1.1, h1.2, l3]
  · by_cases hn : ws.findIdx (inB in2) = ws.length
    · have e : partB ws = true := by unfold partB; rw [if_neg h1, if_pos hn]
      rw [e]
      by_cases hm : ws.findIdx (inB in3) < ws.length
      · have hc : ("close" : Str) ∈ ws.take (ws.findIdx (inB in3)) := Classical.byContradiction fun z => h1 ⟨hm, z⟩
        generalize ws.take (ws.findIdx (inB in3)) = W3 at *
        generalize ws.take (ws.findIdx (inB in2)) = W2 at *
        simp [hi3, hi2, a3, a2, hL3, hL2, hm, hc, l3, l2, hn]
      · generalize ws.take (ws.findIdx (inB in3)) = W3 at *
        generalize ws.take (ws.findIdx (inB in2)) = W2 at *
        simp [hi3, hi2, a3, a2, hL3, hL2, hm, l3, l2, hn]
    · have hn' : ws.findIdx (inB in2) < ws.length := Nat.lt_of_le_of_ne List.findIdx_le_length hn
      have hm : ws.findIdx (inB in3) < ws.length := Nat.lt_of_le_of_lt (le_32 ws) hn'
      have hc : ("close" : Str) ∈ ws.take (ws.findIdx (inB in3)) := Classical.byContradiction fun z => h1 ⟨hm, z⟩
      have hc2 : ("close" : Str) ∈ ws.take (ws.findIdx (inB in2)) := by
        have := List.take_take (i := ws.findIdx (inB in3)) (j := ws.findIdx (inB in2)) (l := ws)
        rw [Nat.min_eq_left (le_32 ws)] at this
        rw [← this] at hc
        exact List.mem_of_mem_take hc
      have e : partB ws = decide (("drain" : Str) ∈ (ws.take (ws.findIdx (inB in2))).drop ((ws.take (ws.findIdx (inB in2))).idxOf ("close" : Str))) := by unfold partB; rw [if_neg h1, if_neg hn]
      rw [e]
      generalize ws.take (ws.findIdx (inB in3)) = W3 at *
      generalize ws.take (ws.findIdx (inB in2)) = W2 at *
      have hx : gTIx (W2.map .str) (.str "close") = some (.int (W2.idxOf ("close" : Str) : Nat)) := by
        unfold gTIx
        dsimp only
        rw [asSs_map]
        exact if_pos hc2
      have hd : (W2.map D.str).drop (W2.idxOf ("close" : Str)) = (W2.drop (W2.idxOf ("close" : Str))).map D.str := by rw [List.map_drop]
      have hnI : ¬ ((ws.findIdx (inB in2) : Nat) : Int) = (ws.length : Int) := fun z => hn (Int.ofNat_inj.mp z)
      have hg : gIn true (.str "drain") (.tup ((W2.map D.str).drop (W2.idxOf ("close" : Str)))) = some (.fz (.bl (decide (("drain" : Str) ∈ W2.drop (W2.idxOf ("close" : Str)))))) := by rw [hd, gIn_tup]; rfl
      simp [hi3, hi2, a3, a2, hL3, hL2, hm, hc, l3, l2, hnI, hx, cut_from, hg]
end K48

namespace K48
open PySem PySem.Spec PyProof.Rows L2 RZ PySem.W Rx
def isB' (s : Str) : Str → Bool := fun w => decide (w = s)
def drainsL (ws : List Str) : List Nat := (List.range (ws.findIdx (inB in2))).filter fun k => decide (ws.getD k "" = ("drain" : Str)) && decide (ws.findIdx (isB' "close") < k)
def stretchB (ws : List Str) : Bool := if ws.findIdx (inB in3) < ws.length ∧ (¬ ws.findIdx (isB' "close") < ws.length ∨ ws.findIdx (inB in3) < ws.findIdx (isB' "close")) then false else if ws.findIdx (inB in2) < ws.length then decide (0 < (drainsL ws).length) else true
theorem idxs_lt {p : Str → Bool} {ws : List Str} {i : Nat} (h : i ∈ idxs p ws) : i < ws.length := List.mem_range.mp (List.mem_filter.mp h).1
theorem idxs_32 (ws : List Str) : (idxs (inB in3) ws).filter (fun i => !decide (ws.getD i "" = ("copy" : Str))) = idxs (inB in2) ws := by
  unfold idxs
  rw [List.filter_filter]
  congr 1
  funext i
  generalize ws.getD i "" = w
  unfold inB in3 in2
  rw [Bool.eq_iff_iff]
  simp
  constructor
  · rintro ⟨h, e | e | e⟩
    · exact .inl e
    · exact .inr e
    · exact absurd e h
  · rintro (e | e)
    · subst e; exact ⟨by decide, .inl rfl⟩
    · subst e; exact ⟨by decide, .inr (.inl rfl)⟩
theorem lc_movers {ws : List Str} (h : ws.length ≤ 1000) : mLc (iR1 (mUn gLen (.v 0))) (bN 5) (mBool (mBin (gIn true) (.e (mBin gIx (.v 0) (.v 5))) (.e (mLst (aCons (mC (.str "tell")) (aCons (mC (.str "open")) (aCons (mC (.str "copy")) aNil))))))) (mVar 5) [5] [.fz (.tup (ws.map .str)), .no, .no, .no, .no, .no] = some (.ok (.ol ((idxs (inB in3) ws).map dI)) [.fz (.tup (ws.map .str)), .no, .no, .no, .no, .no]) :=
  lc_idxL (List.range ws.length) (fun i => inB in3 (ws.getD i "")) (fun i => [.fz (.tup (ws.map .str)), .no, .no, .no, .no, .fz (dI i)]) (by simp [rR_len (show ws.length ≤ 1000000 by omega)]) (by rw [List.length_range]; exact h) (fun i hi => by
    have hi := List.mem_range.mp hi
    refine ⟨by simp, ?_, by simp, by simp⟩
    simp [ix_word hi, hL3, hi3, inB]) (by simp)
theorem lc_turns {ws : List Str} (h : ws.length ≤ 1000) : mLc (iD (mVar 1)) (bN 5) (mBool (mBin (gEq false) (.e (mBin gIx (.v 0) (.v 5))) (.e (mC (.str "copy"))))) (mVar 5) [5] [.fz (.tup (ws.map .str)), .ol ((idxs (inB in3) ws).map dI), .no, .no, .no, .no] = some (.ok (.ol ((idxs (inB in2) ws).map dI)) [.fz (.tup (ws.map .str)), .fz (.lst ((idxs (inB in3) ws).map dI)), .no, .no, .no, .no]) := by
  rw [← idxs_32]
  refine lc_idxL (idxs (inB in3) ws) (fun i => !decide (ws.getD i "" = ("copy" : Str))) (fun i => [.fz (.tup (ws.map .str)), .fz (.lst ((idxs (inB in3) ws).map dI)), .no, .no, .no, .fz (dI i)]) (by simp) (by have := List.length_filter_le (fun i => inB in3 (ws.getD i "")) (List.range ws.length); rw [List.length_range] at this; exact Nat.le_trans this h) (fun i hi => ?_) (by simp)
  have hi := idxs_lt hi
  refine ⟨by simp, ?_, by simp, by simp⟩
  simp [ix_word hi]
theorem lc_closes {ws : List Str} (h : ws.length ≤ 1000) (x y : T) : mLc (iR1 (mUn gLen (.v 0))) (bN 5) (mBool (mBin (gEq true) (.e (mBin gIx (.v 0) (.v 5))) (.e (mC (.str "close"))))) (mVar 5) [5] [.fz (.tup (ws.map .str)), x, y, .no, .no, .no] = some (.ok (.ol ((idxs (isB' "close") ws).map dI)) [.fz (.tup (ws.map .str)), x, y, .no, .no, .no]) :=
  lc_idxL (List.range ws.length) (fun i => isB' "close" (ws.getD i "")) (fun i => [.fz (.tup (ws.map .str)), x, y, .no, .no, .fz (dI i)]) (by simp [rR_len (show ws.length ≤ 1000000 by omega)]) (by rw [List.length_range]; exact h) (fun i hi => by
    have hi := List.mem_range.mp hi
    refine ⟨by simp, ?_, by simp, by simp⟩
    simp [ix_word hi, isB']) (by simp)
theorem lc_drains {ws : List Str} (h : ws.length ≤ 1000) (hn : ws.findIdx (inB in2) < ws.length) (hc : ws.findIdx (isB' "close") < ws.length) (x : T) {r r' : List D} : mLc (iR1 (mBin gIx (.v 2) (.e (mC (.int 0))))) (bN 5) (tmAnd (mBool (mBin (gEq true) (.e (mBin gIx (.v 0) (.v 5))) (.e (mC (.str "drain"))))) (mBool (mBin gLt (.e (mBin gIx (.v 3) (.e (mC (.int 0))))) (.v 5)))) (mVar 5) [5] [.fz (.tup (ws.map .str)), x, .ol (dI (ws.findIdx (inB in2)) :: r), .ol (dI (ws.findIdx (isB' "close")) :: r'), .no, .no] = some (.ok (.ol ((drainsL ws).map dI)) [.fz (.tup (ws.map .str)), x, .ol (dI (ws.findIdx (inB in2)) :: r), .ol (dI (ws.findIdx (isB' "close")) :: r'), .no, .no]) :=
  lc_idxL (List.range (ws.findIdx (inB in2))) _ (fun i => [.fz (.tup (ws.map .str)), x, .ol (dI (ws.findIdx (inB in2)) :: r), .ol (dI (ws.findIdx (isB' "close")) :: r'), .no, .fz (dI i)]) (by simp [rR_dI (show ws.findIdx (inB in2) ≤ 1000000 by omega)]) (by rw [List.length_range]; omega) (fun i hi => by
    have hi := List.mem_range.mp hi
    refine ⟨by simp, ?_, by simp, by simp⟩
    by_cases hd : ws[i]?.getD "" = ("drain" : Str)
    · simp [ix_word (Nat.lt_trans hi hn), hd]
    · simp [ix_word (Nat.lt_trans hi hn), hd]) (by simp)
theorem sp_stretch {ws : List Str} (h : ws.length ≤ 1000) : f_law_stretch_ok [.fz (.tup (ws.map .str))] = some (.ok (.fz (.bl (stretchB ws))) [.fz (.tup (ws.map .str))]) := by
  unfold f_law_stretch_ok p_law_stretch_ok
  refine (r_fn (ts := [.fz (.tup (ws.map .str))]) (np := 1) rfl).trans ?_
  have hm := lc_movers h
  have ht := lc_turns h
  have hcl := lc_closes h
  by_cases m : ws.findIdx (inB in3) < ws.length
  · obtain ⟨rm, em⟩ := head_eq m
    by_cases c : ws.findIdx (isB' "close") < ws.length
    · obtain ⟨rc, ec⟩ := head_eq c
      by_cases k : ws.findIdx (inB in3) < ws.findIdx (isB' "close")
      · have e : stretchB ws = false := if_pos ⟨m, .inr k⟩
        rw [e]
        simp [hm, ht, hcl]; simp [em, ec, k]
      · by_cases n : ws.findIdx (inB in2) < ws.length
        · obtain ⟨rn, en⟩ := head_eq n
          have hd := lc_drains h n c (.fz (.lst (dI (ws.findIdx (inB in3)) :: rm.map dI))) (r := rn.map dI) (r' := rc.map dI)
          have e : stretchB ws = decide (0 < (drainsL ws).length) := by unfold stretchB; rw [if_neg (fun z => z.2.elim (fun q => q c) k), if_pos n]
          rw [e]
          simp [hm, ht, hcl]; simp [em, ec, en, k, hd]
        · have en := idxs_nil n
          have e : stretchB ws = true := by unfold stretchB; rw [if_neg (fun z => z.2.elim (fun q => q c) k), if_neg n]
          rw [e]
          simp [hm, ht, hcl]; simp [em, ec, en, k]
    · have ec := idxs_nil c
      have e : stretchB ws = false := if_pos ⟨m, .inl c⟩
      rw [e]
      simp [hm, ht, hcl]; simp [em, ec]
  · have em := idxs_nil m
    have n : ¬ ws.findIdx (inB in2) < ws.length := fun z => m (Nat.lt_of_le_of_lt (le_32 ws) z)
    have en := idxs_nil n
    have e : stretchB ws = true := by unfold stretchB; rw [if_neg (fun z => m z.1), if_neg n]
    rw [e]
    simp [hm, ht, hcl]; simp [em, en]
end K48

namespace K48
open PySem PySem.Spec PyProof.Rows L2 RZ PySem.W Rx
theorem isB_iff {s w : Str} : isB' s w = true ↔ w = s := decide_eq_true_iff
theorem fi_get {s : Str} {ws : List Str} (h : ws.findIdx (isB' s) < ws.length) : ws[ws.findIdx (isB' s)]? = some s := by
  rw [List.getElem?_eq_getElem h]
  exact congrArg some (isB_iff.mp (List.findIdx_getElem (w := h)))
theorem fi_le {s : Str} {ws : List Str} {i : Nat} (h : ws[i]? = some s) : ws.findIdx (isB' s) ≤ i := by
  rcases Nat.lt_or_ge i (ws.findIdx (isB' s)) with z | z
  · have hi := (List.getElem?_eq_some_iff.mp h).1
    have := List.not_of_lt_findIdx z
    have e : ws[i] = s := (List.getElem?_eq_some_iff.mp h).2
    rw [e] at this
    simp [isB'] at this
  · exact z
theorem mem_take_fi {s : Str} {ws : List Str} {k : Nat} (hk : k ≤ ws.length) : s ∈ ws.take k ↔ ws.findIdx (isB' s) < k := by
  rw [List.mem_iff_getElem?]
  constructor
  · rintro ⟨i, hi⟩
    rw [List.getElem?_take] at hi
    split at hi
    · next z => exact Nat.lt_of_le_of_lt (fi_le hi) z
    · cases hi
  · intro z
    refine ⟨ws.findIdx (isB' s), ?_⟩
    rw [List.getElem?_take, if_pos z]
    exact fi_get (Nat.lt_of_lt_of_le z hk)
theorem idx_take {s : Str} {ws : List Str} {k : Nat} (h : ws.findIdx (isB' s) < k) : (ws.take k).idxOf s = ws.findIdx (isB' s) := by
  have e : (ws.take k).idxOf s = (ws.take k).findIdx (isB' s) := rfl
  rw [e, List.findIdx_take, Nat.min_eq_right (Nat.le_of_lt h)]
theorem mem_mid {s : Str} {ws : List Str} {j k : Nat} (hk : k ≤ ws.length) : s ∈ (ws.take k).drop j ↔ ∃ i, j ≤ i ∧ i < k ∧ ws[i]? = some s := by
  rw [List.mem_iff_getElem?]
  constructor
  · rintro ⟨i, hi⟩
    rw [List.getElem?_drop, List.getElem?_take] at hi
    split at hi
    · next z => exact ⟨j + i, Nat.le_add_right _ _, z, hi⟩
    · cases hi
  · rintro ⟨i, h1, h2, h3⟩
    refine ⟨i - j, ?_⟩
    rw [List.getElem?_drop, List.getElem?_take, Nat.add_sub_cancel' h1, if_pos h2]
    exact h3
theorem ne_cm {ws : List Str} (hm : ws.findIdx (inB in3) < ws.length) : ws.findIdx (isB' "close") ≠ ws.findIdx (inB in3) := fun e => by
  have h1 := List.findIdx_getElem (w := hm)
  have hc : ws.findIdx (isB' "close") < ws.length := by rw [e]; exact hm
  have h2 := fi_get hc
  rw [e, List.getElem?_eq_getElem hm] at h2
  rw [Option.some.inj h2] at h1
  revert h1; decide
theorem part_eq (ws : List Str) : partB ws = stretchB ws := by
  unfold partB stretchB
  have l3 : ws.findIdx (inB in3) ≤ ws.length := List.findIdx_le_length
  have l2 : ws.findIdx (inB in2) ≤ ws.length := List.findIdx_le_length
  have lc : ws.findIdx (isB' "close") ≤ ws.length := List.findIdx_le_length
  have hmc := mem_take_fi (s := "close") l3
  by_cases h1 : ws.findIdx (inB in3) < ws.length ∧ ("close" : Str) ∉ ws.take (ws.findIdx (inB in3))
  · have h2 : ¬ ws.findIdx (isB' "close") < ws.findIdx (inB in3) := fun z => h1.2 (hmc.mpr z)
    have := ne_cm h1.1
    rw [if_pos h1, if_pos ⟨h1.1, by omega⟩]
  · have h3 : ¬ (ws.findIdx (inB in3) < ws.length ∧ (¬ ws.findIdx (isB' "close") < ws.length ∨ ws.findIdx (inB in3) < ws.findIdx (isB' "close"))) := fun z => h1 ⟨z.1, fun q => by
      have := hmc.mp q
      have := z.2
      omega⟩
    rw [if_neg h1, if_neg h3]
    by_cases hn : ws.findIdx (inB in2) = ws.length
    · rw [if_pos hn, if_neg (by omega)]
    · rw [if_neg hn, if_pos (by omega)]
      have hn' : ws.findIdx (inB in2) < ws.length := by omega
      have hm : ws.findIdx (inB in3) < ws.length := Nat.lt_of_le_of_lt (le_32 ws) hn'
      have hc : ws.findIdx (isB' "close") < ws.findIdx (inB in3) := hmc.mp (Classical.byContradiction fun z => h1 ⟨hm, z⟩)
      have hc2 : ws.findIdx (isB' "close") < ws.findIdx (inB in2) := Nat.lt_of_lt_of_le hc (le_32 ws)
      rw [idx_take hc2, decide_eq_decide, mem_mid l2, List.length_pos_iff_exists_mem]
      unfold drainsL
      constructor
      · rintro ⟨i, a, b, e⟩
        refine ⟨i, List.mem_filter.mpr ⟨List.mem_range.mpr b, ?_⟩⟩
        have hne : i ≠ ws.findIdx (isB' "close") := fun z => by
          rw [z, fi_get (Nat.lt_trans hc2 hn')] at e
          revert e; decide
        have hl : ws.findIdx (isB' "close") < i := by omega
        rw [List.getD_eq_getElem?_getD, e]
        simp [hl]
      · rintro ⟨i, hi⟩
        obtain ⟨a, b⟩ := List.mem_filter.mp hi
        rw [Bool.and_eq_true, decide_eq_true_iff, decide_eq_true_iff] at b
        have hi := List.mem_range.mp a
        refine ⟨i, Nat.le_of_lt b.2, hi, ?_⟩
        have := b.1
        rw [idxs_get (Nat.lt_trans hi hn')] at this
        rw [List.getElem?_eq_getElem (Nat.lt_trans hi hn'), this]
end K48

namespace K48
open PySem PySem.Spec PyProof.Rows L2 RZ PySem.W Rx
def showsL (ps : List Str) : List Nat := idxs (isB' "show") ps
def seg (ps : List Str) (k : Nat) : List Str := (ps.take ((showsL ps ++ [ps.length]).getD (k + 1) 0)).drop ((showsL ps ++ [ps.length]).getD k 0 + 1)
def fencedB (ps : List Str) : Bool := (List.range (showsL ps).length).all fun k => stretchB (seg ps k)
theorem shows_len (ps : List Str) : (showsL ps).length ≤ ps.length := by
  have := List.length_filter_le (fun i => isB' "show" (ps.getD i "")) (List.range ps.length)
  rw [List.length_range] at this
  exact this
theorem seg_len (ps : List Str) (k : Nat) : (seg ps k).length ≤ ps.length := by
  unfold seg
  rw [List.length_drop, List.length_take]
  omega
theorem seg_map (ps : List Str) (k : Nat) : ((ps.map D.str).take ((showsL ps ++ [ps.length]).getD (k + 1) 0)).drop ((showsL ps ++ [ps.length]).getD k 0 + 1) = (seg ps k).map .str := by
  unfold seg
  rw [List.map_drop, List.map_take]
theorem sp_fenced_no {d : D} (h : simpleD d) (hx : ∀ xs, d = .tup xs → ∀ x ∈ xs, simpleD x) (hp : isPlanB d = false) : f_is_fenced [.fz d] = some (.ex ⟨1, none⟩ [.fz d]) := by
  unfold f_is_fenced p_is_fenced
  refine (r_fn (ts := [.fz d]) (np := 1) rfl).trans ?_
  simp [sp_check_plan h hx, hp]
theorem simple_strs (ps : List Str) : ∀ x ∈ ps.map D.str, simpleD x := fun x hx => by
  obtain ⟨s, _, rfl⟩ := List.mem_map.mp hx
  exact ⟨true, rfl⟩
theorem sp_fenced {ps : List Str} (hl : ps.length ≤ 1000) (hp : isPlanB (.tup (ps.map .str)) = true) : f_is_fenced [.fz (.tup (ps.map .str))] = some (.ok (.fz (.bl (fencedB ps))) [.fz (.tup (ps.map .str))]) := by
  unfold f_is_fenced p_is_fenced
  refine (r_fn (ts := [.fz (.tup (ps.map .str))]) (np := 1) rfl).trans ?_
  have hck := sp_check_plan (d := .tup (ps.map .str)) ⟨false, rfl⟩ (fun xs e => by cases e; exact simple_strs ps)
  rw [hp] at hck
  have hsh : mLc (iEn (mVar 0)) (bPr 2 (bCons (bN 3) (bCons (bN 4) bNil))) (mBool (mBin (gEq true) (.v 4) (.e (mC (.str "show"))))) (mVar 3) [3, 4] [.fz (.tup (ps.map .str)), .no, .no, .no, .no, .no, .no] = some (.ok (.ol ((showsL ps).map dI)) [.fz (.tup (ps.map .str)), .no, .no, .no, .no, .no, .no]) :=
    lc_enum ps (isB' "show") (fun i => [.fz (.tup (ps.map .str)), .no, .no, .fz (dI i), .fz (.str (ps.getD i "")), .no, .no]) (by simp) hl (fun i hi => ⟨by simp, by simp [isB'], by simp, by simp⟩) (by simp)
  have hz := zip_next (showsL ps) ps.length
  have hall : mLc (iZp (mVar 1) (mVar 2)) (bPr 2 (bCons (bN 5) (bCons (bN 6) bNil))) (M.ret true) (mCall f_is_fenced_part (cCons (mSl (.v 0) (atP (mBin gAdd (.v 5) (.e (mC (.int 1))))) (atP (mVar 6))) cNil)) [5, 6] [.fz (.tup (ps.map .str)), .ol ((showsL ps).map dI), .ol ((showsL ps).drop 1 ++ [ps.length] |>.map dI), .no, .no, .no, .no]
      = some (.ok (.ol ((List.range (showsL ps).length).map fun k => .bl (stretchB (seg ps k)))) [.fz (.tup (ps.map .str)), .fz (.lst ((showsL ps).map dI)), .fz (.lst ((showsL ps).drop 1 ++ [ps.length] |>.map dI)), .no, .no, .no, .no]) :=
    lc_map (List.range (showsL ps).length) (fun k => [dI ((showsL ps ++ [ps.length]).getD k 0), dI ((showsL ps ++ [ps.length]).getD (k + 1) 0)]) _ (fun k => [.fz (.tup (ps.map .str)), .fz (.lst ((showsL ps).map dI)), .fz (.lst ((showsL ps).drop 1 ++ [ps.length] |>.map dI)), .no, .no, .fz (dI ((showsL ps ++ [ps.length]).getD k 0)), .fz (dI ((showsL ps ++ [ps.length]).getD (k + 1) 0))]) (by
      rw [r_iZp]
      simp only [r_D, r_var, List.getElem?_cons_zero, List.getElem?_cons_succ, slV_ol, odat_fz, obnd_ok, List.set_cons_succ, List.set_cons_zero, zR_lst, hz, r_opt]) (by rw [List.length_range]; exact Nat.le_trans (shows_len ps) hl) (fun k hk => by
      have hs := seg_map ps k
      have hpt := sp_part (ws := seg ps k) (Nat.le_trans (seg_len ps k) hl)
      rw [part_eq] at hpt
      generalize (showsL ps ++ [ps.length]).getD k 0 = a at *
      generalize (showsL ps ++ [ps.length]).getD (k + 1) 0 = b at *
      refine ⟨by simp, ?_, by simp⟩
      simp only [r_D, r_call, r_cCons, r_sl, r_evv, List.getElem?_cons_zero, List.getElem?_cons_succ, slX_fz, obnd_ok, r_atP, r_bin, r_eve, r_C, odat_fz, oev_ok, r_getv, r_gete, slG_fz, og2_s, gAdd_dI1, Option.map_some, Option.bind_eq_bind, Option.bind_some, Option.pure_def, r_opt, asI_dI, r_var, slV_fz, ogs_s, gSl_tup, cut_mid, hs, r_cNil, r_ret, List.map_cons, List.map_nil, hpt, ofo_ok, gB_n, gB_0]) (by simp)
  have hE : cutA ((showsL ps).map dI) (some 1) none ++ [D.int (ps.length : Int)] = ((showsL ps).drop 1 ++ [ps.length]).map dI := by
    rw [cut_from1, List.map_append, List.map_drop]; rfl
  simp [hck, hsh]
  rw [hE, r_oLst (small16 (by
    have := shows_len ps
    rw [List.length_map, List.length_append, List.length_drop]
    simp only [List.length_cons, List.length_nil]
    have hp15 : ps.length ≤ 15 := by
      simp [isPlanB] at hp
      have := hp.1.2
      omega
    omega))]
  simp [hall, fencedB, -List.map_append, -List.drop_one]
theorem ix_dI {S : List Nat} {k : Nat} (h : k < S.length) : gIx (.lst (S.map dI)) (dI k) = some (.fz (dI (S.getD k 0))) := by
  show (atI (S.map dI) (k : Int)).map T.fz = _
  rw [Rx.atI_nat, List.getElem?_map, List.getElem?_eq_getElem h, List.getD_eq_getElem?_getD, List.getElem?_eq_getElem h]; rfl
theorem sp_law_fenced {ps : List Str} (hl : ps.length ≤ 900) : f_law_fenced [.fz (.tup (ps.map .str))] = some (.ok (.fz (.bl (fencedB ps))) [.fz (.tup (ps.map .str))]) := by
  unfold f_law_fenced p_law_fenced
  refine (r_fn (ts := [.fz (.tup (ps.map .str))]) (np := 1) rfl).trans ?_
  have sl := shows_len ps
  have hsh : mLc (iR1 (mUn gLen (.v 0))) (bN 2) (mBool (mBin (gEq true) (.e (mBin gIx (.v 0) (.v 2))) (.e (mC (.str "show"))))) (mVar 2) [2] [.fz (.tup (ps.map .str)), .no, .no] = some (.ok (.ol ((showsL ps).map dI)) [.fz (.tup (ps.map .str)), .no, .no]) :=
    lc_idxL (List.range ps.length) (fun i => isB' "show" (ps.getD i "")) (fun i => [.fz (.tup (ps.map .str)), .no, .fz (dI i)]) (by simp [rR_len (show ps.length ≤ 1000000 by omega)]) (by rw [List.length_range]; omega) (fun i hi => by
      have hi := List.mem_range.mp hi
      refine ⟨by simp, ?_, by simp, by simp⟩
      simp [ix_word hi, isB']) (by simp)
  have hcat : gAdd (.lst ((showsL ps).map dI)) (.lst [.int (ps.length : Int)]) = some (.ol ((showsL ps ++ [ps.length]).map dI)) := by
    rw [gCat_lst (small16 (by rw [List.length_map]; simp only [List.length_cons, List.length_nil]; omega)), List.map_append]; rfl
  have hS : (showsL ps ++ [ps.length]).length = (showsL ps).length + 1 := by rw [List.length_append]; rfl
  have hsub : Rx.gSub (.int (((showsL ps ++ [ps.length]).map dI).length : Int)) (.int 1) = some (.fz (dI (showsL ps).length)) := by
    rw [List.length_map, hS, gSub_int]
    show some (T.fz (.int _)) = some (T.fz (.int _))
    rw [show (((showsL ps).length + 1 : Nat) : Int) - 1 = ((showsL ps).length : Int) by omega]
  have hall : mLc (iR1 (mBin Rx.gSub (.e (mUn gLen (.v 1))) (.e (mC (.int 1))))) (bN 2) (M.ret true) (mCall f_law_stretch_ok (cCons (mSl (.v 0) (atP (mBin gAdd (.e (mBin gIx (.v 1) (.v 2))) (.e (mC (.int 1))))) (atP (mBin gIx (.v 1) (.e (mBin gAdd (.v 2) (.e (mC (.int 1)))))))) cNil)) [2] [.fz (.tup (ps.map .str)), .ol ((showsL ps ++ [ps.length]).map dI), .no]
      = some (.ok (.ol ((List.range (showsL ps).length).map fun k => .bl (stretchB (seg ps k)))) [.fz (.tup (ps.map .str)), .ol ((showsL ps ++ [ps.length]).map dI), .no]) :=
    lc_map (List.range (showsL ps).length) dI _ (fun k => [.fz (.tup (ps.map .str)), .ol ((showsL ps ++ [ps.length]).map dI), .fz (dI k)]) (by
      simp only [r_iR1, r_D, r_bin, r_eve, r_un, r_evv, List.getElem?_cons_zero, List.getElem?_cons_succ, slX_ol, obnd_ok, r_getv, slG_ol, og1_s, gLen_lst, Option.map_some, odat_fz, oev_ok, r_C, r_gete, og2_s, hsub, rR_dI (show (showsL ps).length ≤ 1000000 by omega), r_opt]) (by rw [List.length_range]; omega) (fun k hk => by
      have hk := List.mem_range.mp hk
      have hs := seg_map ps k
      have hpt := sp_stretch (ws := seg ps k) (Nat.le_trans (seg_len ps k) (by omega))
      have i1 := ix_dI (S := showsL ps ++ [ps.length]) (k := k) (by rw [hS]; omega)
      have i2 := ix_dI (S := showsL ps ++ [ps.length]) (k := k + 1) (by rw [hS]; omega)
      generalize (showsL ps ++ [ps.length]).getD k 0 = a at *
      generalize (showsL ps ++ [ps.length]).getD (k + 1) 0 = b at *
      refine ⟨by simp, ?_, by simp⟩
      simp only [r_D, r_call, r_cCons, r_sl, r_evv, List.getElem?_cons_zero, List.getElem?_cons_succ, slX_fz, slX_ol, obnd_ok, r_atP, r_bin, r_eve, r_C, odat_fz, oev_ok, r_getv, r_gete, slG_fz, slG_ol, og2_s, gAdd_dI1, Option.map_some, Option.bind_eq_bind, Option.bind_some, Option.pure_def, r_opt, asI_dI, r_var, slV_fz, ogs_s, gSl_tup, cut_mid, hs, i1, i2, r_cNil, r_ret, List.map_cons, List.map_nil, hpt, ofo_ok, gB_n, gB_0]) (by simp)
  simp [hsh]
  simp [hcat, hall, fencedB, -List.map_append]
end K48

namespace K48
open PySem PySem.Spec PyProof.Rows L2 RZ PySem.W Rx
theorem hpow18 : gPow (.int 10) (.int 18) = some (.fz (.int 1000000000000000000)) := by
  unfold gPow gI
  dsimp only
  rw [if_pos (by decide)]
  rfl
theorem mod_nat {a b : Nat} (h : 0 < b) : gMod (.int (a : Int)) (.int (b : Int)) = some (.fz (dI (a % b))) := by
  rw [gMod_int (by omega)]
  show some (T.fz (.int _)) = some (T.fz (.int _))
  rw [Int.natCast_emod]
theorem ix_int {cs : List Int} {j : Nat} {c : Int} (h : cs[j]? = some c) : gIx (.lst (cs.map .int)) (dI j) = some (.fz (.int c)) := by
  show (atI (cs.map .int) (j : Int)).map T.fz = _
  rw [Rx.atI_nat, List.getElem?_map, h]; rfl
theorem sp_draw {k : Nat} {x : T} {lim : Nat} (P : Pot k x) (hk : k ≤ 100000) (h0 : 0 < lim) (h1 : lim ≤ 1000) : ∃ (r : Nat) (x' : T), r < lim ∧ Pot (k + 1) x' ∧ f_law_draw [x, .fz (.int (lim : Int))] = some (.ok (.fz (dI r)) [x', .fz (.int (lim : Int))]) := by
  obtain ⟨cs, t, rfl, hc0, hc1, hcp, ht⟩ := P
  have hj : t % cs.length < cs.length := Nat.mod_lt _ hc0
  obtain ⟨c, hc⟩ : ∃ c, cs[t % cs.length]? = some c := ⟨_, List.getElem?_eq_getElem hj⟩
  have hcn : 0 ≤ c := hcp c (List.mem_of_getElem? hc)
  have hmod := mod_nat (a := t) hc0
  have hix := ix_int hc
  have hlim : (0 : Int) < (lim : Int) := by omega
  by_cases hb : (1000000000000000000 : Int) ≤ c
  · have e : p_law_draw [.no, .fz (.int (lim : Int)), .ol (cs.map .int), .fz (.int (t : Int)), .no, .no, .no, .no] = some (.rt (.fz (.int (c % lim))) [.no, .fz (.int (lim : Int)), .ol ((cs.set (t % cs.length) (c / lim)).map .int), .fz (.int (t : Int)), .fz (dI (t % cs.length)), .fz (.int c), .no, .no]) := by
      unfold p_law_draw
      simp [hmod, hix, hpow18, hb, gDiv_int hlim (Nat.lt_of_lt_of_le (Nat.lt_of_le_of_lt (Nat.log2_le_self lim) (by omega : lim < 1001)) (by decide)), gMod_int hlim]
      rw [oput_nat (ds := cs.map .int) (j := t % cs.length) rfl (by rw [List.length_map]; exact hj)]
      simp [gMod_int hlim]
    refine ⟨(c % lim).toNat, .ll [.ol ((cs.set (t % cs.length) (c / lim)).map .int), .fz (.int ((t + 1 : Nat) : Int))], ?_, ⟨_, t + 1, rfl, by rw [List.length_set]; exact hc0, by rw [List.length_set]; exact hc1, fun z hz => ?_, by omega⟩, ?_⟩
    · have := Int.emod_lt_of_pos c hlim
      have := Int.emod_nonneg c (by omega : (lim : Int) ≠ 0)
      omega
    · rcases List.mem_or_eq_of_mem_set hz with q | q
      · exact hcp z q
      · rw [q]; exact Int.ediv_nonneg hcn (Int.le_of_lt hlim)
    · unfold f_law_draw drawF
      dsimp only
      rw [e]
      dsimp only [List.getElem?_cons_succ, List.getElem?_cons_zero]
      have : ((c % lim).toNat : Int) = c % lim := Int.toNat_of_nonneg (Int.emod_nonneg c (by omega))
      unfold dI
      rw [this]
      rfl
  · have hb' : c < 1000000000000000000 := by omega
    have htI : (t : Int) ≤ 100000 := by omega
    have m1 := mul_small (y := 7919) (z := (t : Int)) (by decide) (by omega)
    have m2 := mul_small (y := 2) (z := (t : Int)) (by decide) (by omega)
    have m3 := mul_small (y := c + 7919 * (t : Int) + 31) (z := 48271 + 2 * (t : Int)) (by omega) (by omega)
    have d1 := gMod_int (y := (c + 7919 * (t : Int) + 31) * (48271 + 2 * (t : Int))) (z := 2147483647) (by decide)
    generalize hA : (c + 7919 * (t : Int) + 31) * (48271 + 2 * (t : Int)) % 2147483647 = A at d1
    have hA0 : 0 ≤ A := by rw [← hA]; exact Int.emod_nonneg _ (by decide)
    have hA1 : A < 2147483647 := by rw [← hA]; exact Int.emod_lt_of_pos _ (by decide)
    have m4 := mul_small (y := A) (z := A) (by omega) (by omega)
    have m5 := mul_small (y := 69621) (z := A) (by decide) (by omega)
    have d2 : gMod (.int (t : Int)) (.int 11) = some (.fz (dI (t % 11))) := mod_nat (a := t) (b := 11) (by decide)
    obtain ⟨p, hp, hp0, hp1⟩ := primes_pos (t % 11) (Nat.mod_lt _ (by decide))
    have hpx := ix_int hp
    have d3 := gMod_int (y := A * A + 69621 * A + (t : Int)) hp0
    generalize hB : (A * A + 69621 * A + (t : Int)) % p = B at d3
    have d4 := div_small (y := B) (z := 5) (by decide) (by decide)
    have d5 := gMod_int (y := B / 5) hlim
    have e : ∃ ρ, p_law_draw [.no, .fz (.int (lim : Int)), .ol (cs.map .int), .fz (.int (t : Int)), .no, .no, .no, .no] = some (.rt (.fz (.int (B / 5 % lim))) ρ) ∧ ρ[2]? = some (.ol (cs.map .int)) := by
      refine ⟨[.no, .fz (.int (lim : Int)), .ol (cs.map .int), .fz (.int (t : Int)), .fz (dI (t % cs.length)), .fz (.int c), .ol (primes11.map .int), .fz (.int B)], ?_, rfl⟩
      unfold p_law_draw
      have hP : ([.int 1000003, .int 1000033, .int 1000037, .int 1000039, .int 1000081, .int 1000099, .int 1000117, .int 1000121, .int 1000133, .int 1000151, .int 1000159] : List D) = primes11.map .int := rfl
      simp [hmod, hix, hpow18, hb]
      simp [hP]
      simp only [m1, Option.map_some, odat_fz, oev_ok, obnd_ok, og2_s, gAdd_int]
      simp [m2]
      simp [m3]
      simp [d1, m4]
      simp [m5]
      simp [d2, hpx, d3, d4, d5]
    obtain ⟨ρ', e, e2⟩ := e
    have hr0 : 0 ≤ B / 5 % (lim : Int) := Int.emod_nonneg _ (by omega)
    refine ⟨(B / 5 % lim).toNat, .ll [.ol (cs.map .int), .fz (.int ((t + 1 : Nat) : Int))], ?_, ⟨_, t + 1, rfl, hc0, hc1, hcp, by omega⟩, ?_⟩
    · have := Int.emod_lt_of_pos (B / 5) hlim
      omega
    · unfold f_law_draw drawF
      dsimp only
      rw [e]
      dsimp only
      rw [e2]
      unfold dI
      rw [Int.toNat_of_nonneg hr0]
      rfl
end K48

namespace K48
open PySem PySem.Spec PyProof.Rows L2 RZ PySem.W Rx
theorem pmono {j k : Nat} {x : T} (P : Pot j x) (h : j ≤ k) : Pot k x := by
  obtain ⟨cs, t, e, a, b, c, d⟩ := P
  exact ⟨cs, t, e, a, b, c, Nat.le_trans d h⟩
theorem call_draw {k : Nat} {x : T} {lim : Nat} {ρ : Rx.Env} {m : M T} (P : Pot k x) (hk : k ≤ 100000) (h0 : 0 < lim) (h1 : lim ≤ 1000) (hx : ρ[0]? = some x) (hm : m (ρ.set 0 .no) = some (.ok (.fz (.int (lim : Int))) (ρ.set 0 .no))) :
    ∃ (r : Nat) (x' : T), r < lim ∧ Pot (k + 1) x' ∧ mCall f_law_draw (cVar 0 (cCons m cNil)) ρ = some (.ok (.fz (dI r)) (ρ.set 0 x')) := by
  obtain ⟨r, x', hr, P', e⟩ := sp_draw P hk h0 h1
  refine ⟨r, x', hr, P', ?_⟩
  obtain ⟨cs, t, ex, _⟩ := P
  subst ex
  simp only [r_call, r_cVar, hx, slC_ll, r_cCons, hm, obnd_ok, r_cNil, r_ret, List.map_cons, List.map_nil, e, ofo_ok, gB_s, gB_n, gB_0, List.set_set]
def W8 : List Str := ["tell", "agree", "close", "clear", "drain", "copy", "open", "drop"]
theorem w8_len : W8.length = 8 := rfl
theorem hW8 : [D.str "tell", D.str "agree", D.str "close", D.str "clear", D.str "drain", D.str "copy", D.str "open", D.str "drop"] = W8.map .str := rfl
theorem w8_get {r : Nat} (h : r < 8) : ∃ w ∈ W8, gIx (.lst (W8.map .str)) (dI r) = some (.fz (.str w)) := by
  refine ⟨W8.getD r "", ?_, ix_wordL h⟩
  rw [idxs_get h]
  exact List.getElem_mem _
abbrev bodyW : M T := mBin gIx (.v 1) (.e (mCall f_law_draw (cVar 0 (cCons (mC (.int 8)) cNil))))
theorem turn_word {k : Nat} {x a b c d : T} {y : D} (P : Pot k x) (hk : k ≤ 100000) : ∃ w x', w ∈ W8 ∧ Pot (k + 1) x' ∧ turnLc (bN 6) (M.ret true) bodyW y [x, .ol (W8.map .str), a, b, c, d, .no] = some (some (.str w), [x', .ol (W8.map .str), a, b, c, d, .fz y]) := by
  obtain ⟨r, x', hr, P', e⟩ := call_draw (lim := 8) (ρ := [x, .ol (W8.map .str), a, b, c, d, .fz y]) (m := mC (.int 8)) P hk (by decide) (by decide) rfl rfl
  obtain ⟨w, hw, ew⟩ := w8_get hr
  refine ⟨w, x', hw, P', turn_map (ρ1 := [x, .ol (W8.map .str), a, b, c, d, .fz y]) (by simp) ?_⟩
  unfold bodyW
  simp only [r_D, r_bin, r_evv, List.getElem?_cons_zero, List.getElem?_cons_succ, slX_ol, obnd_ok, r_eve, e, odat_fz, oev_ok, r_getv, r_gete, List.set_cons_zero, slG_ol, og2_s, ew, Option.map_some]
theorem loop_words {a b c d : T} : ∀ (xs : List D) {k : Nat} {x : T}, Pot k x → k + xs.length ≤ 100000 → ∃ (ws : List Str) (x' : T), loopLc (bN 6) (M.ret true) bodyW [6] xs [x, .ol (W8.map .str), a, b, c, d, .no] = some (ws.map .str, [x', .ol (W8.map .str), a, b, c, d, .no]) ∧ ws.length = xs.length ∧ (∀ w ∈ ws, w ∈ W8) ∧ Pot (k + xs.length) x'
  | [], k, x, P, _ => ⟨[], x, rfl, rfl, (by intro w h; exact nomatch h), P⟩
  | y :: r, k, x, P, hk => by
    rw [List.length_cons] at hk
    obtain ⟨w, x1, hw, P1, e1⟩ := turn_word (a := a) (b := b) (c := c) (d := d) (y := y) P (by omega)
    obtain ⟨ws, x2, e2, l2, h2, P2⟩ := loop_words r P1 (by omega)
    refine ⟨w :: ws, x2, ?_, by rw [List.length_cons, l2, List.length_cons], fun z hz => ?_, pmono P2 (by rw [List.length_cons]; omega)⟩
    · unfold loopLc
      rw [e1]
      show ((loopLc (bN 6) (M.ret true) bodyW [6] r [x1, .ol (W8.map .str), a, b, c, d, .no]).map _) = _
      rw [e2]
      rfl
    · rcases List.mem_cons.mp hz with e | e
      · rw [e]; exact hw
      · exact h2 z e
theorem lc_words {k : Nat} {x a b c d : T} (lim : Nat) (P : Pot k x) (hk : k ≤ 90000) (h0 : 0 < lim) (h1 : lim ≤ 100) : ∃ (ws : List Str) (x' : T), mLc (iR1 (mCall f_law_draw (cVar 0 (cCons (mC (.int (lim : Int))) cNil)))) (bN 6) (M.ret true) bodyW [6] [x, .ol (W8.map .str), a, b, c, d, .no] = some (.ok (.ol (ws.map .str)) [x', .ol (W8.map .str), a, b, c, d, .no]) ∧ ws.length < lim ∧ (∀ w ∈ ws, w ∈ W8) ∧ Pot (k + 100) x' := by
  obtain ⟨r, x1, hr, P1, e⟩ := call_draw (lim := lim) (ρ := [x, .ol (W8.map .str), a, b, c, d, .no]) (m := mC (.int (lim : Int))) P (by omega) h0 (by omega) rfl rfl
  obtain ⟨ws, x2, e2, l2, h2, P2⟩ := loop_words (a := a) (b := b) (c := c) (d := d) ((List.range r).map dI) P1 (by rw [List.length_map, List.length_range]; omega)
  rw [List.length_map, List.length_range] at l2 P2
  refine ⟨ws, x2, ?_, by omega, h2, pmono P2 (by omega)⟩
  unfold mLc
  rw [r_bind, r_iR1, r_D, e]
  simp only [odat_fz, obnd_ok, rR_dI (show r ≤ 1000000 by omega), r_opt, List.set_cons_zero]
  rw [if_pos (show Rx.sizeOk ((List.range r).map dI).length = true from decide_eq_true (small16 (by rw [List.length_map, List.length_range]; omega)))]
  show (match loopLc (bN 6) (M.ret true) bodyW [6] ((List.range r).map dI) [x1, .ol (W8.map .str), a, b, c, d, .no] with
    | some (ds, ρ') => some (O.ok (T.ol ds) (backT _ ρ' [6]))
    | none => none) = _
  rw [e2]
  rfl
def Good (n s : Nat) (ps : List Str) : Prop := ps.length = n ∧ (∀ w ∈ ps, w ∈ WORDSs) ∧ (ps.countP fun y => decide (y = ("show" : Str))) = s
theorem w8_words {w : Str} (h : w ∈ W8) : w ∈ WORDSs ∧ decide (w = ("show" : Str)) = false := by
  have : ∀ w ∈ W8, w ∈ WORDSs ∧ decide (w = ("show" : Str)) = false := by decide
  exact this w h
theorem good_words {ws : List Str} (h : ∀ w ∈ ws, w ∈ W8) : Good ws.length 0 ws := ⟨rfl, fun w hw => (w8_words (h w hw)).1, List.countP_eq_zero.mpr fun w hw => by rw [(w8_words (h w hw)).2]; decide⟩
theorem good_perm {n s : Nat} {ps qs : List Str} (g : Good n s ps) (p : qs.Perm ps) : Good n s qs := ⟨p.length_eq.trans g.1, fun w hw => g.2.1 w (p.mem_iff.mp hw), (p.countP_eq _).trans g.2.2⟩
theorem good_cons {n s : Nat} {ps : List Str} {w : Str} (g : Good n s ps) (h : w ∈ W8) : Good (n + 1) s (w :: ps) := ⟨by rw [List.length_cons, g.1], fun z hz => by
  rcases List.mem_cons.mp hz with e | e
  · rw [e]; exact (w8_words h).1
  · exact g.2.1 z e, by rw [List.countP_cons, g.2.2, (w8_words h).2]; rfl⟩
theorem good_show {n s : Nat} {ps : List Str} (g : Good n s ps) : Good (n + 1) (s + 1) ("show" :: ps) := ⟨by rw [List.length_cons, g.1], fun z hz => by
  rcases List.mem_cons.mp hz with e | e
  · rw [e]; decide
  · exact g.2.1 z e, by rw [List.countP_cons, g.2.2]; rfl⟩
theorem good_app {n s n' s' : Nat} {ps qs : List Str} (g : Good n s ps) (g' : Good n' s' qs) : Good (n + n') (s + s') (ps ++ qs) := ⟨by rw [List.length_append, g.1, g'.1], fun z hz => (List.mem_append.mp hz).elim (g.2.1 z) (g'.2.1 z), by rw [List.countP_append, g.2.2, g'.2.2]⟩
def insAtS (ps : List Str) (k : Nat) (w : Str) : List Str := ps.take k ++ [w] ++ ps.drop k
theorem ins_map (ps : List Str) (k : Nat) (w : Str) : insAt (ps.map .str) k (.str w) = (insAtS ps k w).map .str := by
  unfold insAt insAtS
  rw [List.map_append, List.map_append, List.map_take, List.map_drop]; rfl
theorem ins_perm (ps : List Str) (k : Nat) (w : Str) : (insAtS ps k w).Perm (w :: ps) := by
  unfold insAtS
  have : (w :: ps) = w :: (ps.take k ++ ps.drop k) := by rw [List.take_append_drop]
  rw [this, List.append_assoc]
  exact List.perm_middle
/-! ### the first kind of plan: shows put in -/
abbrev insB : MS := sIns 2 (mCall f_law_draw (cVar 0 (cCons (mBin gAdd (.e (mUn gLen (.v 2))) (.e (mC (.int 1)))) cNil))) (mC (.str "show"))
theorem one_ins {k n s : Nat} {x a : T} {ps : List Str} (P : Pot k x) (hk : k ≤ 100000) (g : Good n s ps) (hn : n ≤ 500) : ∃ ps' x', insB [x, .ol (W8.map .str), .ol (ps.map .str), a, .no, .no, .no] = some (.nx [x', .ol (W8.map .str), .ol (ps'.map .str), a, .no, .no, .no]) ∧ Good (n + 1) (s + 1) ps' ∧ Pot (k + 1) x' := by
  obtain ⟨r, x', hr, P', e⟩ := call_draw (lim := n + 1) (ρ := [x, .ol (W8.map .str), .ol (ps.map .str), a, .no, .no, .no]) (m := mBin gAdd (.e (mUn gLen (.v 2))) (.e (mC (.int 1)))) P hk (by omega) (by omega) rfl (by
    have : (ps.map D.str).length = n := by rw [List.length_map, g.1]
    simp only [List.set_cons_zero, r_bin, r_eve, r_D, r_un, r_evv, List.getElem?_cons_zero, List.getElem?_cons_succ, slX_ol, obnd_ok, r_getv, slG_ol, og1_s, gLen_lst, Option.map_some, odat_fz, oev_ok, r_C, r_gete, og2_s, gAdd_int, this]
    rfl)
  refine ⟨insAtS ps r "show", x', ?_, good_perm (good_show g) (ins_perm _ _ _), P'⟩
  unfold insB
  simp only [r_ins, isOl_eq, List.getElem?_cons_zero, List.getElem?_cons_succ, if_true, r_D, e, odat_fz, obs_ok, List.set_cons_zero, r_C]
  rw [oins_nat (ds := ps.map .str) (k := r) rfl (by rw [List.length_map, g.1]; omega) (by omega), ins_map]
  rfl
theorem loop_ins : ∀ (xs : List D) {k n s : Nat} {x a : T} {ps : List Str}, Pot k x → k + xs.length ≤ 100000 → Good n s ps → n + xs.length ≤ 500 → ∃ ps' x' a', loopF (bN 3) insB xs [x, .ol (W8.map .str), .ol (ps.map .str), a, .no, .no, .no] = some (.nx [x', .ol (W8.map .str), .ol (ps'.map .str), a', .no, .no, .no]) ∧ Good (n + xs.length) (s + xs.length) ps' ∧ Pot (k + xs.length) x'
  | [], k, n, s, x, a, ps, P, _, g, _ => ⟨ps, x, a, rfl, g, P⟩
  | y :: r, k, n, s, x, a, ps, P, hk, g, hn => by
    rw [List.length_cons] at hk hn
    obtain ⟨p1, x1, e1, g1, P1⟩ := one_ins (a := .fz y) P (by omega) g (by omega)
    obtain ⟨p2, x2, a2, e2, g2, P2⟩ := loop_ins r (a := .fz y) P1 (by omega) g1 (by omega)
    refine ⟨p2, x2, a2, ?_, ?_, pmono P2 (by rw [List.length_cons]; omega)⟩
    · unfold loopF
      show ((insB [x, .ol (W8.map .str), .ol (ps.map .str), .fz y, .no, .no, .no]).bind _) = _
      rw [e1]
      exact e2
    · rw [List.length_cons]
      have h1 : n + (r.length + 1) = n + 1 + r.length := by omega
      have h2 : s + (r.length + 1) = s + 1 + r.length := by omega
      rw [h1, h2]; exact g2
end K48

namespace K48
open PySem PySem.Spec PyProof.Rows L2 RZ PySem.W Rx
theorem add1_dI {r : Nat} : gAdd (.int 1) (dI r) = some (.fz (dI (1 + r))) := by
  show some (T.fz (.int _)) = some (T.fz (.int _))
  rw [show (1 : Int) + (r : Int) = ((1 + r : Nat) : Int) by omega]
theorem in2_get {r : Nat} (h : r < 2) : ∃ w ∈ in2, gIx (.lst (in2.map .str)) (dI r) = some (.fz (.str w)) := by
  refine ⟨in2.getD r "", ?_, ix_wordL h⟩
  rw [idxs_get h]
  exact List.getElem_mem _
theorem in2_w8 {w : Str} (h : w ∈ in2) : w ∈ W8 := by
  have : ∀ w ∈ in2, w ∈ W8 := by decide
  exact this w h
abbrev rowB : MS := (sSeq (sSet 4 (mLst (aCons (mC (.str "show")) (aCons (mC (.str "close")) (aCons (mC (.str "drain")) (aCons (mBin gIx (.e (mLst (aCons (mC (.str "tell")) (aCons (mC (.str "open")) aNil)))) (.e (mCall f_law_draw (cVar 0 (cCons (mC (.int 2)) cNil))))) aNil))))))
    (sSeq (sIns 4 (mBin gAdd (.e (mC (.int 1))) (.e (mCall f_law_draw (cVar 0 (cCons (mC (.int 4)) cNil))))) (mBin gIx (.v 1) (.e (mCall f_law_draw (cVar 0 (cCons (mC (.int 8)) cNil))))))
    (sSet 2 (mBin gAdd (.v 2) (.v 4)))))
theorem good_row {w v : Str} (h : w ∈ in2) (h2 : v ∈ W8) (k : Nat) : Good 5 1 (insAtS ["show", "close", "drain", w] k v) :=
  good_perm (good_cons (good_show (good_cons (w := "close") (good_cons (w := "drain") (good_words (ws := [w]) fun z hz => by rw [List.mem_singleton.mp hz]; exact in2_w8 h) (by decide)) (by decide))) h2) (ins_perm _ _ _)
theorem one_row {k n s : Nat} {x a b : T} {ps : List Str} (P : Pot k x) (hk : k ≤ 90000) (g : Good n s ps) (hn : n ≤ 500) : ∃ ps' x' b', rowB [x, .ol (W8.map .str), .ol (ps.map .str), a, b, .no, .no] = some (.nx [x', .ol (W8.map .str), .ol (ps'.map .str), a, b', .no, .no]) ∧ Good (n + 5) (s + 1) ps' ∧ Pot (k + 3) x' := by
  obtain ⟨r1, x1, h1, P1, e1⟩ := call_draw (lim := 2) (ρ := [x, .ol (W8.map .str), .ol (ps.map .str), a, b, .no, .no]) (m := mC (.int 2)) P (by omega) (by decide) (by decide) rfl rfl
  obtain ⟨w, hw, ew⟩ := in2_get h1
  obtain ⟨r2, x2, h2, P2, e2⟩ := call_draw (lim := 4) (ρ := [x1, .ol (W8.map .str), .ol (ps.map .str), a, .ol (([("show" : Str), "close", "drain", w]).map .str), .no, .no]) (m := mC (.int 4)) P1 (by omega) (by decide) (by decide) rfl rfl
  obtain ⟨r3, x3, h3, P3, e3⟩ := call_draw (lim := 8) (ρ := [x2, .ol (W8.map .str), .ol (ps.map .str), a, .ol (([("show" : Str), "close", "drain", w]).map .str), .no, .no]) (m := mC (.int 8)) P2 (by omega) (by decide) (by decide) rfl rfl
  obtain ⟨v, hv, ev⟩ := w8_get h3
  have gr := good_row hw hv (1 + r2)
  refine ⟨ps ++ insAtS ["show", "close", "drain", w] (1 + r2) v, x3, .ol ((insAtS ["show", "close", "drain", w] (1 + r2) v).map .str), ?_, good_app g gr, P3⟩
  have s1 : sSet 4 (mLst (aCons (mC (.str "show")) (aCons (mC (.str "close")) (aCons (mC (.str "drain")) (aCons (mBin gIx (.e (mLst (aCons (mC (.str "tell")) (aCons (mC (.str "open")) aNil)))) (.e (mCall f_law_draw (cVar 0 (cCons (mC (.int 2)) cNil))))) aNil))))) [x, .ol (W8.map .str), .ol (ps.map .str), a, b, .no, .no]
      = some (.nx [x1, .ol (W8.map .str), .ol (ps.map .str), a, .ol (([("show" : Str), "close", "drain", w]).map .str), .no, .no]) := by
    have hl : oLst (in2.map D.str) [x, .ol (W8.map .str), .ol (ps.map .str), a, b, .no, .no] = some (.ok (.ol (in2.map .str)) [x, .ol (W8.map .str), .ol (ps.map .str), a, b, .no, .no]) := r_oLst (small16 (by decide))
    simp only [r_set, r_lst, r_aCons, r_D, r_C, odat_fz, obnd_ok, r_bin, r_eve, r_aNil, r_ret, hL2, hl, odat_ol, oev_ok, e1, r_gete, og2_s, ew, Option.map_some, List.set_cons_zero]
    rw [r_oLst (small16 (by show 4 ≤ 1000; decide))]
    rfl
  have s2 : sIns 4 (mBin gAdd (.e (mC (.int 1))) (.e (mCall f_law_draw (cVar 0 (cCons (mC (.int 4)) cNil))))) (mBin gIx (.v 1) (.e (mCall f_law_draw (cVar 0 (cCons (mC (.int 8)) cNil))))) [x1, .ol (W8.map .str), .ol (ps.map .str), a, .ol (([("show" : Str), "close", "drain", w]).map .str), .no, .no]
      = some (.nx [x3, .ol (W8.map .str), .ol (ps.map .str), a, .ol ((insAtS ["show", "close", "drain", w] (1 + r2) v).map .str), .no, .no]) := by
    simp only [r_ins, isOl_eq, List.getElem?_cons_zero, List.getElem?_cons_succ, if_true, r_D, r_bin, r_eve, r_C, odat_fz, oev_ok, obnd_ok, e2, r_gete, og2_s, add1_dI, Option.map_some, obs_ok, List.set_cons_zero, r_evv, slX_ol, e3, r_getv, slG_ol, ev]
    rw [oins_nat (ds := ([("show" : Str), "close", "drain", w]).map .str) (k := 1 + r2) rfl (by show 4 ≤ 1000; decide) (by omega), ins_map]
    rfl
  have s3 : sSet 2 (mBin gAdd (.v 2) (.v 4)) [x3, .ol (W8.map .str), .ol (ps.map .str), a, .ol ((insAtS ["show", "close", "drain", w] (1 + r2) v).map .str), .no, .no]
      = some (.nx [x3, .ol (W8.map .str), .ol ((ps ++ insAtS ["show", "close", "drain", w] (1 + r2) v).map .str), a, .ol ((insAtS ["show", "close", "drain", w] (1 + r2) v).map .str), .no, .no]) := by
    generalize insAtS ["show", "close", "drain", w] (1 + r2) v = row at *
    have hc : gAdd (.lst (ps.map .str)) (.lst (row.map .str)) = some (.ol ((ps ++ row).map .str)) := by
      rw [gCat_lst (small16 (by rw [List.length_map, List.length_map, g.1, gr.1]; omega)), List.map_append]
    simp only [r_set, r_bin, r_evv, List.getElem?_cons_zero, List.getElem?_cons_succ, slX_ol, obnd_ok, r_getv, slG_ol, og2_s, hc, Option.map_some, obs_ok]
    rfl
  show sSeq _ (sSeq _ _) _ = _
  rw [r_seq, s1, oseq_nx, r_seq, s2, oseq_nx, s3]
theorem loop_row : ∀ (xs : List D) {k n s : Nat} {x a b : T} {ps : List Str}, Pot k x → k + 3 * xs.length ≤ 90000 → Good n s ps → n + 5 * xs.length ≤ 500 → ∃ ps' x' a' b', loopF (bN 3) rowB xs [x, .ol (W8.map .str), .ol (ps.map .str), a, b, .no, .no] = some (.nx [x', .ol (W8.map .str), .ol (ps'.map .str), a', b', .no, .no]) ∧ Good (n + 5 * xs.length) (s + xs.length) ps' ∧ Pot (k + 3 * xs.length) x'
  | [], k, n, s, x, a, b, ps, P, _, g, _ => ⟨ps, x, a, b, rfl, g, P⟩
  | y :: r, k, n, s, x, a, b, ps, P, hk, g, hn => by
    rw [List.length_cons] at hk hn
    obtain ⟨p1, x1, b1, e1, g1, P1⟩ := one_row (a := .fz y) (b := b) P (by omega) g (by omega)
    obtain ⟨p2, x2, a2, b2, e2, g2, P2⟩ := loop_row r (a := .fz y) (b := b1) P1 (by omega) g1 (by omega)
    refine ⟨p2, x2, a2, b2, ?_, ?_, pmono P2 (by rw [List.length_cons]; omega)⟩
    · unfold loopF
      show ((rowB [x, .ol (W8.map .str), .ol (ps.map .str), .fz y, b, .no, .no]).bind _) = _
      rw [e1]
      exact e2
    · rw [List.length_cons]
      have h1 : n + 5 * (r.length + 1) = n + 5 + 5 * r.length := by omega
      have h2 : s + (r.length + 1) = s + 1 + r.length := by omega
      rw [h1, h2]; exact g2
end K48

namespace K48
open PySem PySem.Spec PyProof.Rows L2 RZ PySem.W Rx
theorem eq_dI0 {r : Nat} : gEq true (dI r) (.int 0) = some (.fz (.bl (decide (r = 0)))) := by
  show some (T.fz (.bl (decide ((r : Int) = 0)))) = _
  rw [show decide ((r : Int) = 0) = decide (r = 0) from decide_eq_decide.mpr (by omega)]
theorem gt_dI0 {r : Nat} : gGt (dI r) (.int 0) = some (.fz (.bl (decide (0 < r)))) := by
  show some (T.fz (.bl (decide ((0 : Int) < (r : Int))))) = _
  rw [show decide ((0 : Int) < (r : Int)) = decide (0 < r) from decide_eq_decide.mpr (by omega)]
theorem good_plan {n s : Nat} {ps : List Str} (g : Good n s ps) (h1 : 1 ≤ n) (h2 : n ≤ 15) (h3 : 1 ≤ s) (h4 : s ≤ 2) : isPlanB (.tup (ps.map .str)) = true := by
  have ha : (ps.map D.str).all (isWordB WORDSs) = true := List.all_eq_true.mpr fun d hd => by
    obtain ⟨w, hw, rfl⟩ := List.mem_map.mp hd
    exact decide_eq_true (g.2.1 w hw)
  simp only [isPlanB, ha, asSs_map, List.length_map, g.1, cntOk, g.2.2]
  simp
  omega
/-- range(1 + a draw) -/
theorem it_draw {k : Nat} {x : T} {lim : Nat} {ρ : Rx.Env} (P : Pot k x) (hk : k ≤ 100000) (h0 : 0 < lim) (h1 : lim ≤ 1000) (hx : ρ[0]? = some x) : ∃ (r : Nat) (x' : T), r < lim ∧ Pot (k + 1) x' ∧ iR1 (mBin gAdd (.e (mC (.int 1))) (.e (mCall f_law_draw (cVar 0 (cCons (mC (.int (lim : Int))) cNil))))) ρ = some (.ok ((List.range (1 + r)).map dI) (ρ.set 0 x')) := by
  obtain ⟨r, x', hr, P', e⟩ := call_draw (lim := lim) (ρ := ρ) (m := mC (.int (lim : Int))) P hk h0 h1 hx rfl
  refine ⟨r, x', hr, P', ?_⟩
  simp only [r_iR1, r_D, r_bin, r_eve, r_C, odat_fz, oev_ok, obnd_ok, e, r_gete, og2_s, add1_dI, Option.map_some, rR_dI (show 1 + r ≤ 1000000 by omega), r_opt]
theorem plan_first {k : Nat} {x : T} (P : Pot k x) (hk : k ≤ 1000) : ∃ (ps : List Str) (x' : T) (n : Nat) (s : List T), (sSeq (sSet 2 (mLc (iR1 (mCall f_law_draw (cVar 0 (cCons (mC (.int 14)) cNil)))) (bN 6) (M.ret true) (mBin gIx (.v 1) (.e (mCall f_law_draw (cVar 0 (cCons (mC (.int 8)) cNil))))) [6]))
    (sSeq (sFor (iR1 (mBin gAdd (.e (mC (.int 1))) (.e (mCall f_law_draw (cVar 0 (cCons (mC (.int 2)) cNil)))))) (bN 3)
    (sIns 2 (mCall f_law_draw (cVar 0 (cCons (mBin gAdd (.e (mUn gLen (.v 2))) (.e (mC (.int 1)))) cNil))) (mC (.str "show"))))
    (sRet (mUn gTupOf (.v 2))))) [x, .ol (W8.map .str), .no, .no, .no, .no, .no] = some (.rt (.fz (.tup (ps.map .str))) (x' :: [.ol (W8.map .str)] ++ s)) ∧ s.length = 5 ∧ Pot (k + 200) x' ∧ ps.length = n ∧ n ≤ 15 ∧ isPlanB (.tup (ps.map .str)) = true := by
  obtain ⟨ws, x1, e1, l1, h1, P1⟩ := lc_words (a := .no) (b := .no) (c := .no) (d := .no) 14 P (by omega) (by decide) (by decide)
  obtain ⟨r, x2, hr, P2, e2⟩ := it_draw (lim := 2) (ρ := [x1, .ol (W8.map .str), .ol (ws.map .str), .no, .no, .no, .no]) P1 (by omega) (by decide) (by decide) rfl
  obtain ⟨ps, x3, a3, e3, g3, P3⟩ := loop_ins ((List.range (1 + r)).map dI) (a := .no) P2 (by rw [List.length_map, List.length_range]; omega) (good_words h1) (by rw [List.length_map, List.length_range]; omega)
  rw [List.length_map, List.length_range] at g3 P3
  refine ⟨ps, x3, _, [.ol (ps.map .str), a3, .no, .no, .no], ?_, rfl, pmono P3 (by omega), g3.1, by omega, good_plan g3 (by omega) (by omega) (by omega) (by omega)⟩
  have s1 : sSet 2 (mLc (iR1 (mCall f_law_draw (cVar 0 (cCons (mC (.int 14)) cNil)))) (bN 6) (M.ret true) (mBin gIx (.v 1) (.e (mCall f_law_draw (cVar 0 (cCons (mC (.int 8)) cNil))))) [6]) [x, .ol (W8.map .str), .no, .no, .no, .no, .no] = some (.nx [x1, .ol (W8.map .str), .ol (ws.map .str), .no, .no, .no, .no]) := by
    rw [r_set]
    have e1 : mLc (iR1 (mCall f_law_draw (cVar 0 (cCons (mC (.int 14)) cNil)))) (bN 6) (M.ret true) (mBin gIx (.v 1) (.e (mCall f_law_draw (cVar 0 (cCons (mC (.int 8)) cNil))))) [6] [x, .ol (W8.map .str), .no, .no, .no, .no, .no] = _ := e1
    rw [e1]
    rfl
  have e2 : iR1 (mBin gAdd (.e (mC (.int 1))) (.e (mCall f_law_draw (cVar 0 (cCons (mC (.int 2)) cNil))))) [x1, .ol (W8.map .str), .ol (ws.map .str), .no, .no, .no, .no] = some (.ok ((List.range (1 + r)).map dI) [x2, .ol (W8.map .str), .ol (ws.map .str), .no, .no, .no, .no]) := e2
  rw [r_seq, s1, oseq_nx, r_seq, r_for, e2, obs_ok]
  have e3 : loopF (bN 3) (sIns 2 (mCall f_law_draw (cVar 0 (cCons (mBin gAdd (.e (mUn gLen (.v 2))) (.e (mC (.int 1)))) cNil))) (mC (.str "show"))) ((List.range (1 + r)).map dI) [x2, .ol (W8.map .str), .ol (ws.map .str), .no, .no, .no, .no] = _ := e3
  rw [e3, oseq_nx]
  simp only [r_rt, r_un, r_evv, List.getElem?_cons_zero, List.getElem?_cons_succ, slX_ol, obnd_ok, r_getv, slG_ol, og1_s]
  rfl
theorem good_set {n s i : Nat} {ps : List Str} {w v : Str} (g : Good n s ps) (hi : ps[i]? = some w) (hw : w ≠ ("show" : Str)) (hv : v ∈ W8) : Good n s (ps.set i v) := by
  obtain ⟨hl, e⟩ := List.getElem?_eq_some_iff.mp hi
  refine ⟨by rw [List.length_set, g.1], fun z hz => ?_, ?_⟩
  · rcases List.mem_or_eq_of_mem_set hz with q | q
    · exact g.2.1 z q
    · rw [q]; exact (w8_words hv).1
  · rw [List.countP_set hl, g.2.2, e, (w8_words hv).2, decide_eq_false hw]
    simp
theorem plan_last {k n s : Nat} {x a b : T} {ps : List Str} (P : Pot k x) (hk : k ≤ 1000) (g : Good n s ps) (h0 : 0 < n) (hn : n ≤ 500) : ∃ (ps' : List Str) (x' : T) (s' : List T), (sSeq (sSet 5 (mCall f_law_draw (cVar 0 (cCons (mUn gLen (.v 2)) cNil))))
    (sSeq (sIf (tmAnd (mBool (mBin gGt (.e (mCall f_law_draw (cVar 0 (cCons (mC (.int 3)) cNil)))) (.e (mC (.int 0))))) (mBool (mBin (gEq false) (.e (mBin gIx (.v 2) (.v 5))) (.e (mC (.str "show"))))))
    (sPut 2 (mVar 5) (mBin gIx (.v 1) (.e (mCall f_law_draw (cVar 0 (cCons (mC (.int 8)) cNil))))))
    sSkip)
    (sRet (mUn gTupOf (.v 2))))) [x, .ol (W8.map .str), .ol (ps.map .str), a, b, .no, .no] = some (.rt (.fz (.tup (ps'.map .str))) (x' :: s')) ∧ Good n s ps' ∧ Pot (k + 3) x' := by
  obtain ⟨at', x1, h1, P1, e1⟩ := call_draw (lim := n) (ρ := [x, .ol (W8.map .str), .ol (ps.map .str), a, b, .no, .no]) (m := mUn gLen (.v 2)) P (by omega) h0 (by omega) rfl (by
    have : (ps.map D.str).length = n := by rw [List.length_map, g.1]
    simp only [List.set_cons_zero, r_un, r_evv, List.getElem?_cons_zero, List.getElem?_cons_succ, slX_ol, obnd_ok, r_getv, slG_ol, og1_s, gLen_lst, Option.map_some, this])
  obtain ⟨r2, x2, h2, P2, e2⟩ := call_draw (lim := 3) (ρ := [x1, .ol (W8.map .str), .ol (ps.map .str), a, b, .fz (dI at'), .no]) (m := mC (.int 3)) P1 (by omega) (by decide) (by decide) rfl rfl
  obtain ⟨r3, x3, h3, P3, e3⟩ := call_draw (lim := 8) (ρ := [x2, .ol (W8.map .str), .ol (ps.map .str), a, b, .fz (dI at'), .no]) (m := mC (.int 8)) P2 (by omega) (by decide) (by decide) rfl rfl
  obtain ⟨v, hv, ev⟩ := w8_get h3
  have hat : at' < ps.length := by rw [g.1]; exact h1
  have ex := ix_wordL hat
  rw [idxs_get hat] at ex
  have hg : ps[at']? = some ps[at'] := List.getElem?_eq_getElem hat
  generalize ps[at'] = w at ex hg
  have s1 : sSet 5 (mCall f_law_draw (cVar 0 (cCons (mUn gLen (.v 2)) cNil))) [x, .ol (W8.map .str), .ol (ps.map .str), a, b, .no, .no] = some (.nx [x1, .ol (W8.map .str), .ol (ps.map .str), a, b, .fz (dI at'), .no]) := by
    rw [r_set, e1]; rfl
  have ret : ∀ (qs : List Str) (y : T), sRet (mUn gTupOf (.v 2)) [y, .ol (W8.map .str), .ol (qs.map .str), a, b, .fz (dI at'), .no] = some (.rt (.fz (.tup (qs.map .str))) (y :: [.ol (W8.map .str), .ol (qs.map .str), a, b, .fz (dI at'), .no])) := fun qs y => by
    simp only [r_rt, r_un, r_evv, List.getElem?_cons_zero, List.getElem?_cons_succ, slX_ol, obnd_ok, r_getv, slG_ol, og1_s]
    rfl
  have tst : tmAnd (mBool (mBin gGt (.e (mCall f_law_draw (cVar 0 (cCons (mC (.int 3)) cNil)))) (.e (mC (.int 0))))) (mBool (mBin (gEq false) (.e (mBin gIx (.v 2) (.v 5))) (.e (mC (.str "show"))))) [x1, .ol (W8.map .str), .ol (ps.map .str), a, b, .fz (dI at'), .no]
      = some (.ok (decide (0 < r2) && !decide (w = ("show" : Str))) [x2, .ol (W8.map .str), .ol (ps.map .str), a, b, .fz (dI at'), .no]) := by
    simp only [r_tand, r_bool, r_D, r_bin, r_eve, e2, odat_fz, oev_ok, obnd_ok, r_C, r_gete, og2_s, gt_dI0, Option.map_some, r_isB, List.set_cons_zero]
    cases decide (0 < r2) with
    | false => rfl
    | true =>
      simp only [cond_true, r_bool, r_D, r_bin, r_eve, r_evv, List.getElem?_cons_zero, List.getElem?_cons_succ, slX_ol, slX_fz, obnd_ok, r_getv, slG_ol, slG_fz, og2_s, ex, Option.map_some, odat_fz, oev_ok, r_C, r_gete, gEq_str, r_isB]
      rfl
  rw [r_seq, s1, oseq_nx, r_seq, r_sif, tst, obs_ok]
  cases hb : (decide (0 < r2) && !decide (w = ("show" : Str))) with
  | false =>
    refine ⟨ps, x2, [.ol (W8.map .str), .ol (ps.map .str), a, b, .fz (dI at'), .no], ?_, g, pmono P2 (by omega)⟩
    rw [cond_false, r_skip, oseq_nx, ret]
  | true =>
    have hw : w ≠ ("show" : Str) := fun z => by rw [z] at hb; simp at hb
    refine ⟨ps.set at' v, x3, [.ol (W8.map .str), .ol ((ps.set at' v).map .str), a, b, .fz (dI at'), .no], ?_, good_set g hg hw hv, P3⟩
    have s2 : sPut 2 (mVar 5) (mBin gIx (.v 1) (.e (mCall f_law_draw (cVar 0 (cCons (mC (.int 8)) cNil))))) [x2, .ol (W8.map .str), .ol (ps.map .str), a, b, .fz (dI at'), .no] = some (.nx [x3, .ol (W8.map .str), .ol ((ps.set at' v).map .str), a, b, .fz (dI at'), .no]) := by
      simp only [r_put, r_D, r_bin, r_evv, List.getElem?_cons_zero, List.getElem?_cons_succ, slX_ol, obnd_ok, r_eve, e3, odat_fz, oev_ok, r_getv, r_gete, List.set_cons_zero, slG_ol, og2_s, ev, Option.map_some, obs_ok, isOl_eq, if_true, r_var, slV_fz]
      rw [oput_nat (ds := ps.map .str) (j := at') rfl (by rw [List.length_map]; exact hat)]
      rw [List.map_set]
      rfl
    rw [cond_true, s2, oseq_nx, ret]
end K48

namespace K48
open PySem PySem.Spec PyProof.Rows L2 RZ PySem.W Rx
theorem sp_drawn {k : Nat} {x : T} (P : Pot k x) (hk : k ≤ 100) : ∃ (ps : List Str) (x' : T), f_law_drawn_plan [x] = some (.ok (.fz (.tup (ps.map .str))) [x']) ∧ Pot (k + 500) x' ∧ ps.length ≤ 15 ∧ isPlanB (.tup (ps.map .str)) = true := by
  obtain ⟨r, x1, hr, P1, e1⟩ := call_draw (lim := 2) (ρ := [x, .ol (W8.map .str), .no, .no, .no, .no, .no]) (m := mC (.int 2)) P (by omega) (by decide) (by decide) rfl rfl
  have s1 : sSet 1 (mLst (aCons (mC (.str "tell")) (aCons (mC (.str "agree")) (aCons (mC (.str "close")) (aCons (mC (.str "clear")) (aCons (mC (.str "drain")) (aCons (mC (.str "copy")) (aCons (mC (.str "open")) (aCons (mC (.str "drop")) aNil))))))))) [x, .no, .no, .no, .no, .no, .no] = some (.nx [x, .ol (W8.map .str), .no, .no, .no, .no, .no]) := by
    simp only [r_set, r_lst, r_aCons, r_D, r_C, odat_fz, obnd_ok, r_aNil, r_ret]
    rw [r_oLst (small16 (by show 8 ≤ 1000; decide))]
    rfl
  have tst : mBool (mBin (gEq true) (.e (mCall f_law_draw (cVar 0 (cCons (mC (.int 2)) cNil)))) (.e (mC (.int 0)))) [x, .ol (W8.map .str), .no, .no, .no, .no, .no] = some (.ok (decide (r = 0)) [x1, .ol (W8.map .str), .no, .no, .no, .no, .no]) := by
    simp only [r_bool, r_D, r_bin, r_eve, e1, odat_fz, oev_ok, obnd_ok, r_C, r_gete, og2_s, eq_dI0, Option.map_some, r_isB, List.set_cons_zero]
  unfold f_law_drawn_plan p_law_drawn_plan
  cases hb : decide (r = 0) with
  | true =>
    obtain ⟨ps, x2, n, s, e2, hs, P2, hl, hn, hp⟩ := plan_first P1 (by omega)
    refine ⟨ps, x2, (r_fn (ts := [x]) (np := 1) rfl).trans ?_, pmono P2 (by omega), by omega, hp⟩
    show ofn _ _ (sSeq _ _ [x, .no, .no, .no, .no, .no, .no]) = _
    rw [r_seq, s1, oseq_nx, r_seq, r_sif, tst, obs_ok, hb, cond_true, e2, oseq_rt, ofn_rt]
    rfl
  | false =>
    obtain ⟨ws, x2, e2, l2, h2, P2⟩ := lc_words (a := .no) (b := .no) (c := .no) (d := .no) 3 P1 (by omega) (by decide) (by decide)
    obtain ⟨r3, x3, hr3, P3, e3⟩ := it_draw (lim := 2) (ρ := [x2, .ol (W8.map .str), .ol (ws.map .str), .no, .no, .no, .no]) P2 (by omega) (by decide) (by decide) rfl
    obtain ⟨qs, x4, a4, b4, e4, g4, P4⟩ := loop_row ((List.range (1 + r3)).map dI) (a := .no) (b := .no) P3 (by rw [List.length_map, List.length_range]; omega) (good_words h2) (by rw [List.length_map, List.length_range]; omega)
    rw [List.length_map, List.length_range] at g4 P4
    obtain ⟨ps, x5, s5, e5, g5, P5⟩ := plan_last (a := a4) (b := b4) P4 (by omega) g4 (by omega) (by omega)
    refine ⟨ps, x5, (r_fn (ts := [x]) (np := 1) rfl).trans ?_, pmono P5 (by omega), by rw [g5.1]; omega, good_plan g5 (by omega) (by omega) (by omega) (by omega)⟩
    have s2 : sSet 2 (mLc (iR1 (mCall f_law_draw (cVar 0 (cCons (mC (.int 3)) cNil)))) (bN 6) (M.ret true) (mBin gIx (.v 1) (.e (mCall f_law_draw (cVar 0 (cCons (mC (.int 8)) cNil))))) [6]) [x1, .ol (W8.map .str), .no, .no, .no, .no, .no] = some (.nx [x2, .ol (W8.map .str), .ol (ws.map .str), .no, .no, .no, .no]) := by
      rw [r_set]
      have e2 : mLc (iR1 (mCall f_law_draw (cVar 0 (cCons (mC (.int 3)) cNil)))) (bN 6) (M.ret true) (mBin gIx (.v 1) (.e (mCall f_law_draw (cVar 0 (cCons (mC (.int 8)) cNil))))) [6] [x1, .ol (W8.map .str), .no, .no, .no, .no, .no] = _ := e2
      rw [e2]
      rfl
    have e3 : iR1 (mBin gAdd (.e (mC (.int 1))) (.e (mCall f_law_draw (cVar 0 (cCons (mC (.int 2)) cNil))))) [x2, .ol (W8.map .str), .ol (ws.map .str), .no, .no, .no, .no] = some (.ok ((List.range (1 + r3)).map dI) [x3, .ol (W8.map .str), .ol (ws.map .str), .no, .no, .no, .no]) := e3
    unfold rowB at e4
    show ofn _ _ (sSeq _ _ [x, .no, .no, .no, .no, .no, .no]) = _
    rw [r_seq, s1, oseq_nx, r_seq, r_sif, tst, obs_ok, hb, cond_false, r_skip, oseq_nx, r_seq, s2, oseq_nx, r_seq, r_for, e3, obs_ok, e4, oseq_nx, e5, ofn_rt]
    rfl
/-! ### refusals -/
theorem sp_refused {d : D} (h : simpleD d) (hx : ∀ xs, d = .tup xs → ∀ x ∈ xs, simpleD x) (hp : isPlanB d = false) : f_law_refused [.fz d] = some (.ok (.fz (.bl true)) [.fz d]) := by
  unfold f_law_refused p_law_refused
  refine (r_fn (ts := [.fz d]) (np := 1) rfl).trans ?_
  show ofn _ _ (sSeq _ _ [.fz d, .no, .no]) = _
  have s1 : sSet 1 (mC (.int 0)) [.fz d, .no, .no] = some (.nx [.fz d, .fz (.int 0), .no]) := rfl
  have b1 : sDo (mCall f_is_fenced (cVar 0 cNil)) [.fz d, .fz (.int 0), .no] = some (.ex ⟨1, none⟩ [.fz d, .fz (.int 0), .no]) := by
    simp [sp_fenced_no h hx hp]
  have s2 : sTry (sDo (mCall f_is_fenced (cVar 0 cNil))) (⟨ct_LaneError, some 2, fun a xx => (sSeq (sSet 1 (mC (.int 1)))
    (sIf (tmAnd (mTru (.e (mIsx a xx tb_BadCase 2))) (mTru (.e (mIsx a xx tb_ValueError 2))))
    (sSet 1 (mC (.int 2)))
    sSkip))⟩ :: []) [.fz d, .fz (.int 0), .no] = some (.nx [.fz d, .fz (.int 2), .no]) := by
    unfold sTry
    rw [b1]
    show sHandle _ _ _ = _
    unfold sHandle
    show Hd.run _ _ _ = _
    refine Hd.run_eq fun a => ?_
    have i1 : mIsx a ⟨1, none⟩ tb_BadCase 2 [.fz d, .fz (.int 1), .fz (.ad a)] = some (.ok (.fz (.bl true)) [.fz d, .fz (.int 1), .fz (.ad a)]) := if_pos rfl
    have i2 : mIsx a ⟨1, none⟩ tb_ValueError 2 [.fz d, .fz (.int 1), .fz (.ad a)] = some (.ok (.fz (.bl true)) [.fz d, .fz (.int 1), .fz (.ad a)]) := if_pos rfl
    have t1 : sSet 1 (mC (.int 1)) [.fz d, .fz (.int 0), .fz (.ad a)] = some (.nx [.fz d, .fz (.int 1), .fz (.ad a)]) := rfl
    have body : (sSeq (sSet 1 (mC (.int 1)))
    (sIf (tmAnd (mTru (.e (mIsx a ⟨1, none⟩ tb_BadCase 2))) (mTru (.e (mIsx a ⟨1, none⟩ tb_ValueError 2))))
    (sSet 1 (mC (.int 2)))
    sSkip)) [.fz d, .fz (.int 0), .fz (.ad a)] = some (.nx [.fz d, .fz (.int 2), .fz (.ad a)]) := by
      rw [r_seq, t1, oseq_nx, r_sif]
      simp only [r_tand, r_tru, r_eve, r_D, i1, i2, odat_fz, oev_ok, obnd_ok, r_gete, otr_s, tru_bl, Option.map_some, cond_true, obs_ok]
      rfl
    exact congrArg (fun o => Option.bind o (SO.clr (some 2))) body
  rw [r_seq, s1, oseq_nx, r_seq, s2, oseq_nx]
  simp
end K48

namespace K48
open PySem PySem.Spec PyProof.Rows L2 RZ PySem.W Rx
@[simp] theorem r_aT {m : M T} {r : M (List T)} {ρ : Rx.Env} : aT m r ρ = obnd (m ρ) fun t => fun ρ1 => obnd (r ρ1) fun ts => M.ret (t :: ts) := nr rfl
theorem r_ll {r : M (List T)} {ρ ρ' : Rx.Env} {ts : List T} (h : r ρ = some (.ok ts ρ')) (hl : ts.length ≤ 1000) : mLl r ρ = some (.ok (.ll ts) ρ') := by
  unfold mLl
  rw [r_bind, h, obnd_ok, if_pos (show Rx.sizeOk ts.length = true from decide_eq_true (small16 hl)), r_opt]
def absD : D → D
  | .int z => .int (if z < 0 then -z else z)
  | d => d
theorem sp_pot (ns : List Int) (hl : ns.length ≤ 63) : ∃ x, f_law_pot [.fz (.scr ns)] = some (.ok x [.fz (.scr ns)]) ∧ Pot 0 x := by
  have hlc := mLc_map (it := iD (mVar 0)) (bd := bN 2) (m := mUn gAbs (.v 2)) (vs := [2]) (ρ := [.fz (.scr ns), .no, .no]) (ρ0 := [.fz (.scr ns), .no, .no]) (ns.map .int) absD (by simp) (small16 (by rw [List.length_map]; omega)) (fun x hx => by
    obtain ⟨z, _, rfl⟩ := List.mem_map.mp hx
    exact ⟨[.fz (.scr ns), .no, .fz (.int z)], turn_map (ρ1 := [.fz (.scr ns), .no, .fz (.int z)]) (by simp) (by simp [absD]), by simp⟩) (by simp)
  have hm : (ns.map D.int).map absD = (ns.map fun z => if z < 0 then -z else z).map D.int := by rw [List.map_map, List.map_map]; rfl
  rw [hm] at hlc
  have hpos : ∀ c ∈ ns.map (fun z => if z < 0 then -z else z), 0 ≤ c := fun c hc => by
    obtain ⟨z, _, rfl⟩ := List.mem_map.mp hc
    split <;> omega
  have hlen : (ns.map fun z => if z < 0 then -z else z).length = ns.length := List.length_map ..
  generalize ns.map (fun z => if z < 0 then -z else z) = cs at hlc hpos hlen
  have s1 : sSet 1 (mLc (iD (mVar 0)) (bN 2) (M.ret true) (mUn gAbs (.v 2)) [2]) [.fz (.scr ns), .no, .no] = some (.nx [.fz (.scr ns), .ol (cs.map .int), .no]) := by
    rw [r_set, hlc]; rfl
  have ret : ∀ ds : List Int, sRet (mLl (aT (mMv 1) (aT (mC (.int 0)) (M.ret [])))) [.fz (.scr ns), .ol (ds.map .int), .no] = some (.rt (.ll [.ol (ds.map .int), .fz (.int 0)]) [.fz (.scr ns), .no, .no]) := fun ds => by
    rw [r_rt, r_ll (ts := [.ol (ds.map .int), .fz (.int 0)]) (ρ' := [.fz (.scr ns), .no, .no]) (by simp) (by show 2 ≤ 1000; decide)]
    rfl
  cases hc : cs with
  | nil =>
    subst hc
    refine ⟨.ll [.ol ([(0 : Int)].map .int), .fz (.int 0)], ?_, [0], 0, rfl, by decide, by decide, by decide, Nat.le_refl _⟩
    unfold f_law_pot p_law_pot
    refine (r_fn (ts := [.fz (.scr ns)]) (np := 1) rfl).trans ?_
    show ofn _ _ (sSeq _ _ [.fz (.scr ns), .no, .no]) = _
    rw [r_seq, s1, oseq_nx, r_seq]
    have s2 : sIf (tmNot (mTru (.v 1))) (sSet 1 (mLst (aCons (mC (.int 0)) aNil))) sSkip [.fz (.scr ns), .ol (([] : List Int).map .int), .no] = some (.nx [.fz (.scr ns), .ol ([(0 : Int)].map .int), .no]) := by simp
    rw [s2, oseq_nx, ret]
    simp
  | cons c r =>
    refine ⟨.ll [.ol (cs.map .int), .fz (.int 0)], ?_, cs, 0, rfl, by rw [hc]; simp, by omega, hpos, Nat.le_refl _⟩
    unfold f_law_pot p_law_pot
    refine (r_fn (ts := [.fz (.scr ns)]) (np := 1) rfl).trans ?_
    show ofn _ _ (sSeq _ _ [.fz (.scr ns), .no, .no]) = _
    rw [r_seq, s1, oseq_nx, r_seq]
    have s2 : sIf (tmNot (mTru (.v 1))) (sSet 1 (mLst (aCons (mC (.int 0)) aNil))) sSkip [.fz (.scr ns), .ol (cs.map .int), .no] = some (.nx [.fz (.scr ns), .ol (cs.map .int), .no]) := by
      rw [hc]; simp
    rw [s2, oseq_nx, ret]
    simp
theorem call_drawI {k : Nat} {x : T} {lim i : Nat} {ρ : Rx.Env} {m : M T} (P : Pot k x) (hk : k ≤ 100000) (h0 : 0 < lim) (h1 : lim ≤ 1000) (hx : ρ[i]? = some x) (hm : m (ρ.set i .no) = some (.ok (.fz (.int (lim : Int))) (ρ.set i .no))) :
    ∃ (r : Nat) (x' : T), r < lim ∧ Pot (k + 1) x' ∧ mCall f_law_draw (cVar i (cCons m cNil)) ρ = some (.ok (.fz (dI r)) (ρ.set i x')) := by
  obtain ⟨r, x', hr, P', e⟩ := sp_draw P hk h0 h1
  refine ⟨r, x', hr, P', ?_⟩
  obtain ⟨cs, t, ex, _⟩ := P
  subst ex
  simp only [r_call, r_cVar, hx, slC_ll, r_cCons, hm, obnd_ok, r_cNil, r_ret, List.map_cons, List.map_nil, e, ofo_ok, gB_s, gB_n, gB_0, List.set_set]
def oddL (L : List D) : List D := [.lst L, .tup (L ++ [.str "show", .str "show", .str "show"]), .tup (L ++ [.str "shut"]), .tup (L ++ [.int 0]), .tup [], .non, .str "show", .int 0, .tup [.str "open", .str "tell"], .tup [.tup L], .tup [.str "show", .non], .tup [.str "Show"], .tup [.bl true],
  .tup (.str "show" :: List.replicate 15 (.str "open")), .tup [.str "show", .tup [.str "open"]]]
theorem odd_run (L : List D) (hl : L.length ≤ 15) (s p : T) : sSet 3 (mLst (aCons (mUn gList (.v 2)) (aCons (mBin gAdd (.v 2) (.e (mBin gMul (.e (mTup (aCons (mC (.str "show")) aNil))) (.e (mC (.int 3)))))) (aCons (mBin gAdd (.v 2) (.e (mTup (aCons (mC (.str "shut")) aNil)))) (aCons (mBin gAdd (.v 2) (.e (mTup (aCons (mC (.int 0)) aNil)))) (aCons (mTup aNil) (aCons (mC .non) (aCons (mC (.str "show")) (aCons (mC (.int 0)) aNil))))))))) [s, p, .fz (.tup L), .no, .no] = some (.nx [s, p, .fz (.tup L), .ol ((oddL L).take 8), .no]) := by
  have a1 : gMul (.tup [.str "show"]) (.int 3) = some (.fz (.tup [.str "show", .str "show", .str "show"])) := rfl
  have a2 : gAdd (.tup L) (.tup [.str "show", .str "show", .str "show"]) = some (.fz (.tup (L ++ [.str "show", .str "show", .str "show"]))) := gCat_tup (small16 (by simp; omega))
  have a3 : gAdd (.tup L) (.tup [.str "shut"]) = some (.fz (.tup (L ++ [.str "shut"]))) := gCat_tup (small16 (by simp; omega))
  have a4 : gAdd (.tup L) (.tup [.int 0]) = some (.fz (.tup (L ++ [.int 0]))) := gCat_tup (small16 (by simp; omega))
  simp [a1, a2, a3, a4, oddL]
theorem odd_run2 (L : List D) (hl : L.length ≤ 15) (s p : T) : sSet 3 (mBin gAdd (.v 3) (.e (mLst (aCons (mTup (aCons (mC (.str "open")) (aCons (mC (.str "tell")) aNil))) (aCons (mTup (aCons (mVar 2) aNil)) (aCons (mTup (aCons (mC (.str "show")) (aCons (mC .non) aNil))) (aCons (mTup (aCons (mC (.str "Show")) aNil)) (aCons (mTup (aCons (mC (.bl true)) aNil)) (aCons (mBin gAdd (.e (mTup (aCons (mC (.str "show")) aNil))) (.e (mBin gMul (.e (mTup (aCons (mC (.str "open")) aNil))) (.e (mC (.int 15)))))) aNil))))))))) [s, p, .fz (.tup L), .ol ((oddL L).take 8), .no] = some (.nx [s, p, .fz (.tup L), .ol ((oddL L).take 14), .no]) := by
  have a1 : gMul (.tup [.str "open"]) (.int 15) = some (.fz (.tup (List.replicate 15 (.str "open")))) := rfl
  have a2 : gAdd (.tup [.str "show"]) (.tup (List.replicate 15 (.str "open"))) = some (.fz (.tup (.str "show" :: List.replicate 15 (.str "open")))) := gCat_tup (small16 (by decide))
  generalize hr : List.replicate 15 (D.str "open") = R at a1 a2
  have a3 : gAdd (.lst ((oddL L).take 8)) (.lst [.tup [.str "open", .str "tell"], .tup [.tup L], .tup [.str "show", .non], .tup [.str "Show"], .tup [.bl true], .tup (.str "show" :: R)]) = some (.ol ((oddL L).take 14)) := by
    rw [gCat_lst (small16 (by show 14 ≤ 1000; decide)), ← hr]; rfl
  generalize (oddL L).take 8 = O8 at *
  simp [a1, a2, a3]
theorem odd_run3 (L : List D) (s p : T) : sSet 3 (mBin gAdd (.v 3) (.e (mLst (aCons (mTup (aCons (mC (.str "show")) (aCons (mTup (aCons (mC (.str "open")) aNil)) aNil))) aNil)))) [s, p, .fz (.tup L), .ol ((oddL L).take 14), .no] = some (.nx [s, p, .fz (.tup L), .ol (oddL L), .no]) := by
  have a3 : gAdd (.lst ((oddL L).take 14)) (.lst [.tup [.str "show", .tup [.str "open"]]]) = some (.ol (oddL L)) := by
    rw [gCat_lst (small16 (by show 15 ≤ 1000; decide))]; rfl
  generalize (oddL L).take 14 = O14 at *
  simp [a3]
end K48

namespace K48
open PySem PySem.Spec PyProof.Rows L2 RZ PySem.W Rx
theorem simp_of {d : D} (h : (Ty.of .str d).isSome = true) : simpleD d := Option.isSome_iff_exists.mp h
theorem odd_bad {ps : List Str} (hp : isPlanB (.tup (ps.map .str)) = true) : ∀ d ∈ oddL (ps.map .str), simpleD d ∧ (∀ xs, d = .tup xs → ∀ x ∈ xs, simpleD x) ∧ isPlanB d = false := by
  have hs := simple_strs ps
  have ha : (ps.map D.str).all (isWordB WORDSs) = true ∧ 1 ≤ ps.countP (fun y => decide (y = ("show" : Str))) := by
    simp only [isPlanB, asSs_map, cntOk, Bool.and_eq_true, decide_eq_true_iff] at hp
    exact ⟨hp.2.1, by omega⟩
  intro d hd
  unfold oddL at hd
  simp only [List.mem_cons, List.not_mem_nil, or_false] at hd
  rcases hd with e | e | e | e | e | e | e | e | e | e | e | e | e | e | e <;> subst e
  · exact ⟨simp_of rfl, (by intro xs e; cases e), rfl⟩
  · refine ⟨simp_of rfl, (by
      intro xs e x hx
      cases e
      rcases List.mem_append.mp hx with q | q
      · exact hs x q
      · simp at q; subst q; exact simp_of rfl), ?_⟩
    have he : ps.map D.str ++ [.str "show", .str "show", .str "show"] = (ps ++ [("show" : Str), "show", "show"]).map D.str := by rw [List.map_append]; rfl
    rw [he]
    simp only [isPlanB, asSs_map]
    have hc : cntOk (ps ++ [("show" : Str), "show", "show"]) = false := by
      unfold cntOk
      rw [List.countP_append]
      have : List.countP (fun y => decide (y = ("show" : Str))) [("show" : Str), "show", "show"] = 3 := by decide
      rw [this, Bool.and_eq_false_iff]
      right
      exact decide_eq_false (by omega)
    rw [hc, Bool.and_false, Bool.and_false]
  · refine ⟨simp_of rfl, (by
      intro xs e x hx
      cases e
      rcases List.mem_append.mp hx with q | q
      · exact hs x q
      · simp at q; subst q; exact simp_of rfl), ?_⟩
    have hw : isWordB WORDSs (.str "shut") = false := by decide
    simp only [isPlanB, List.all_append, List.all_cons, hw, Bool.false_and, Bool.and_false]
  · refine ⟨simp_of rfl, (by
      intro xs e x hx
      cases e
      rcases List.mem_append.mp hx with q | q
      · exact hs x q
      · simp at q; subst q; exact simp_of rfl), ?_⟩
    have hw : isWordB WORDSs (.int 0) = false := rfl
    simp only [isPlanB, List.all_append, List.all_cons, hw, Bool.false_and, Bool.and_false]
  · exact ⟨simp_of rfl, (by intro xs e x hx; cases e; cases hx), rfl⟩
  · exact ⟨simp_of rfl, (by intro xs e; cases e), rfl⟩
  · exact ⟨simp_of rfl, (by intro xs e; cases e), rfl⟩
  · exact ⟨simp_of rfl, (by intro xs e; cases e), rfl⟩
  · exact ⟨simp_of rfl, (by intro xs e x hx; cases e; simp at hx; rcases hx with q | q <;> subst q <;> exact simp_of rfl), by decide⟩
  · refine ⟨simp_of rfl, (by intro xs e x hx; cases e; simp at hx; subst hx; exact simp_of rfl), ?_⟩
    have hw : isWordB WORDSs (.tup (ps.map .str)) = false := rfl
    simp only [isPlanB, List.all_cons, hw, Bool.false_and, Bool.and_false]
  · exact ⟨simp_of rfl, (by intro xs e x hx; cases e; simp at hx; rcases hx with q | q <;> subst q <;> exact simp_of rfl), by decide⟩
  · exact ⟨simp_of rfl, (by intro xs e x hx; cases e; simp at hx; subst hx; exact simp_of rfl), by decide⟩
  · exact ⟨simp_of rfl, (by intro xs e x hx; cases e; simp at hx; subst hx; exact simp_of rfl), by decide⟩
  · exact ⟨simp_of rfl, (by
      intro xs e x hx
      cases e
      rcases List.mem_cons.mp hx with q | q
      · subst q; exact simp_of rfl
      · rw [List.eq_of_mem_replicate q]; exact simp_of rfl), by decide⟩
  · exact ⟨simp_of rfl, (by intro xs e x hx; cases e; simp at hx; rcases hx with q | q <;> subst q <;> exact simp_of rfl), by decide⟩
theorem eq_dI1 {r : Nat} : gEq true (dI r) (.int 1) = some (.fz (.bl (decide (r = 1)))) := by
  show some (T.fz (.bl (decide ((r : Int) = 1)))) = _
  rw [show decide ((r : Int) = 1) = decide (r = 1) from decide_eq_decide.mpr (by omega)]
theorem gEq_bl (a b : Bool) : gEq true (.bl a) (.bl b) = some (.fz (.bl (decide (a = b)))) := by cases a <;> cases b <;> rfl
theorem law_ok : ∀ ns : List Int, ns.length ≤ 63 → (∀ z ∈ ns, Builtin.Int.intBits z ≤ 1048576) → ∃ outs, f_law [.fz (.scr ns)] = some (.ok (.fz (.bl true)) outs) := by
  intro ns hl _
  obtain ⟨x, e1, P⟩ := sp_pot ns hl
  obtain ⟨ps, x2, e2, P2, hps, hpl⟩ := sp_drawn P (by omega)
  obtain ⟨r, x3, hr, P3, e3⟩ := call_drawI (i := 1) (lim := 4) (ρ := [.fz (.scr ns), x2, .fz (.tup (ps.map .str)), .no, .no]) (m := mC (.int 4)) P2 (by omega) (by decide) (by decide) rfl rfl
  have s1 : sSet 1 (mCall f_law_pot (cVar 0 cNil)) [.fz (.scr ns), .no, .no, .no, .no] = some (.nx [.fz (.scr ns), x, .no, .no, .no]) := by
    simp [e1]
  have s2 : sSet 2 (mCall f_law_drawn_plan (cVar 1 cNil)) [.fz (.scr ns), x, .no, .no, .no] = some (.nx [.fz (.scr ns), x2, .fz (.tup (ps.map .str)), .no, .no]) := by
    obtain ⟨cs, t, ex, _⟩ := P
    subst ex
    simp [e2]
  have tst : mBool (mBin (gEq true) (.e (mCall f_law_draw (cVar 1 (cCons (mC (.int 4)) cNil)))) (.e (mC (.int 1)))) [.fz (.scr ns), x2, .fz (.tup (ps.map .str)), .no, .no] = some (.ok (decide (r = 1)) [.fz (.scr ns), x3, .fz (.tup (ps.map .str)), .no, .no]) := by
    have e3 : mCall f_law_draw (cVar 1 (cCons (mC (.int 4)) cNil)) [.fz (.scr ns), x2, .fz (.tup (ps.map .str)), .no, .no] = some (.ok (.fz (dI r)) [.fz (.scr ns), x3, .fz (.tup (ps.map .str)), .no, .no]) := e3
    simp only [r_bool, r_D, r_bin, r_eve, e3, odat_fz, oev_ok, obnd_ok, r_C, r_gete, og2_s, eq_dI1, Option.map_some, r_isB]
  unfold f_law p_law
  cases hb : decide (r = 1) with
  | true =>
    obtain ⟨j, x4, hj, P4, e4⟩ := call_drawI (i := 1) (lim := 15) (ρ := [.fz (.scr ns), x3, .fz (.tup (ps.map .str)), .ol (oddL (ps.map .str)), .no]) (m := mC (.int 15)) P3 (by omega) (by decide) (by decide) rfl rfl
    have hlen : (oddL (ps.map D.str)).length = 15 := rfl
    have hg : (oddL (ps.map D.str))[j]? = some ((oddL (ps.map D.str))[j]'(by rw [hlen]; exact hj)) := List.getElem?_eq_getElem _
    have hbad := odd_bad hpl _ (List.getElem_mem (l := oddL (ps.map D.str)) (n := j) (by rw [hlen]; exact hj))
    generalize hd : (oddL (ps.map D.str))[j]'(by rw [hlen]; exact hj) = d at hg hbad
    have ej : gIx (.lst (oddL (ps.map .str))) (dI j) = some (.fz d) := by
      show (atI (oddL (ps.map .str)) (j : Int)).map T.fz = _
      rw [Rx.atI_nat, hg]; rfl
    have hrf := sp_refused hbad.1 hbad.2.1 hbad.2.2
    refine ⟨[.fz (.scr ns)], (r_fn (ts := [.fz (.scr ns)]) (np := 1) rfl).trans ?_⟩
    show ofn _ _ (sSeq _ _ [.fz (.scr ns), .no, .no, .no, .no]) = _
    rw [r_seq, s1, oseq_nx, r_seq, s2, oseq_nx, r_seq, r_sif, tst, obs_ok, hb, cond_true, r_seq, odd_run _ (by rw [List.length_map]; exact hps), oseq_nx, r_seq, odd_run2 _ (by rw [List.length_map]; exact hps), oseq_nx, r_seq, odd_run3, oseq_nx]
    have e4 : mCall f_law_draw (cVar 1 (cCons (mC (.int 15)) cNil)) [.fz (.scr ns), x3, .fz (.tup (ps.map .str)), .ol (oddL (ps.map .str)), .no] = some (.ok (.fz (dI j)) [.fz (.scr ns), x4, .fz (.tup (ps.map .str)), .ol (oddL (ps.map .str)), .no]) := e4
    have fin : sRet (mCall f_law_refused (cCons (mBin gIx (.v 3) (.e (mCall f_law_draw (cVar 1 (cCons (mC (.int 15)) cNil))))) cNil)) [.fz (.scr ns), x3, .fz (.tup (ps.map .str)), .ol (oddL (ps.map .str)), .no] = some (.rt (.fz (.bl true)) [.fz (.scr ns), x4, .fz (.tup (ps.map .str)), .ol (oddL (ps.map .str)), .no]) := by
      rw [r_rt, r_call]
      simp only [r_cCons, r_bin, r_evv, List.getElem?_cons_zero, List.getElem?_cons_succ, slX_ol, obnd_ok, r_eve, r_D, e4, odat_fz, oev_ok, r_getv, r_gete, slG_ol, og2_s, ej, Option.map_some, r_cNil, r_ret, List.map_cons, List.map_nil, hrf, ofo_ok, gB_n, gB_0, obs_ok]
    rw [fin, oseq_rt, ofn_rt]
    rfl
  | false =>
    have f1 := sp_fenced (ps := ps) (by omega) hpl
    have f2 := sp_law_fenced (ps := ps) (by omega)
    refine ⟨[.fz (.scr ns)], (r_fn (ts := [.fz (.scr ns)]) (np := 1) rfl).trans ?_⟩
    show ofn _ _ (sSeq _ _ [.fz (.scr ns), .no, .no, .no, .no]) = _
    rw [r_seq, s1, oseq_nx, r_seq, s2, oseq_nx, r_seq, r_sif, tst, obs_ok, hb, cond_false, r_skip, oseq_nx, r_seq]
    have s4 : sSet 4 (mCall f_is_fenced (cVar 2 cNil)) [.fz (.scr ns), x3, .fz (.tup (ps.map .str)), .no, .no] = some (.nx [.fz (.scr ns), x3, .fz (.tup (ps.map .str)), .no, .fz (.bl (fencedB ps))]) := by
      simp only [r_set, r_call, r_cVar, List.getElem?_cons_zero, List.getElem?_cons_succ, slC_fz, r_cNil, obnd_ok, r_ret, List.map_cons, List.map_nil, f1, ofo_ok, gB_n, gB_0, obs_ok]
      rfl
    have i1 : gIsi .bool (.bl (fencedB ps)) = some (.fz (.bl true)) := rfl
    have fin : sRet (mAnd (mUn (gIsi .bool) (.v 4)) (mBin (gEq true) (.v 4) (.e (mCall f_law_fenced (cVar 2 cNil))))) [.fz (.scr ns), x3, .fz (.tup (ps.map .str)), .no, .fz (.bl (fencedB ps))] = some (.rt (.fz (.bl true)) [.fz (.scr ns), x3, .fz (.tup (ps.map .str)), .no, .fz (.bl (fencedB ps))]) := by
      simp only [r_rt, r_and, r_D, r_un, r_evv, List.getElem?_cons_zero, List.getElem?_cons_succ, slX_fz, obnd_ok, r_getv, slG_fz, og1_s, i1, Option.map_some, odat_fz, oand_ok, tru_bl, Option.bind_some, cond_true, r_bin, r_eve, r_call, r_cVar, slC_fz, r_cNil, r_ret, List.map_cons, List.map_nil, f2, ofo_ok, gB_n, gB_0, oev_ok, r_gete, og2_s, gEq_bl, obs_ok, decide_true]
    rw [s4, oseq_nx, fin, ofn_rt]
    rfl
end K48

namespace K48
open PySem PySem.Spec PyProof.Rows L2 RZ PySem.W Rx
open Lc (Tp AS And1 ButS Lv minL maxL)
def topS (i : Nat) : Stmt := PySem.Challenge.pw_lanescounted_k48_fences_read.main.body.getD i (.Pass ⟨0, 0, 0, 0⟩)
abbrev s_is_word : Stmt := topS 1
theorem sc_is_word : FnScope ["thing", "words"] ["thing", "words"] (defScope s_is_word) := ⟨rfl, rfl, rfl, by decide +kernel, rfl, by decide +kernel, by decide +kernel⟩
abbrev s_is_row : Stmt := topS 2
theorem sc_is_row : FnScope ["thing", "low", "high"] ["thing", "low", "high"] (defScope s_is_row) := ⟨rfl, rfl, rfl, by decide +kernel, rfl, by decide +kernel, by decide +kernel⟩
abbrev s_is_plan : Stmt := topS 10
theorem sc_is_plan : FnScope ["thing", "word"] ["thing"] (defScope s_is_plan) := ⟨rfl, rfl, rfl, by decide +kernel, rfl, by decide +kernel, by decide +kernel⟩
abbrev s_check_plan : Stmt := topS 11
theorem sc_check_plan : FnScope ["plan"] ["plan"] (defScope s_check_plan) := ⟨rfl, rfl, rfl, by decide +kernel, rfl, by decide +kernel, by decide +kernel⟩
abbrev s_is_fenced : Stmt := topS 13
theorem sc_is_fenced : FnScope ["plan", "shows", "ends", "place", "word", "show", "end"] ["plan"] (defScope s_is_fenced) := ⟨rfl, rfl, rfl, by decide +kernel, rfl, by decide +kernel, by decide +kernel⟩
abbrev s_is_fenced_part : Stmt := topS 14
theorem sc_is_fenced_part : FnScope ["words", "ahead"] ["words"] (defScope s_is_fenced_part) := ⟨rfl, rfl, rfl, by decide +kernel, rfl, by decide +kernel, by decide +kernel⟩
abbrev s_words_ahead : Stmt := topS 15
theorem sc_words_ahead : FnScope ["words", "others", "places", "place", "word"] ["words", "others"] (defScope s_words_ahead) := ⟨rfl, rfl, rfl, by decide +kernel, rfl, by decide +kernel, by decide +kernel⟩
abbrev s_law_draw : Stmt := topS 17
theorem sc_law_draw : FnScope ["_law_pot_here", "_law_limit", "_law_cells", "_law_turn", "_law_at", "_law_cell", "_law_primes", "_law_mixed"] ["_law_pot_here", "_law_limit"] (defScope s_law_draw) := ⟨rfl, rfl, rfl, by decide +kernel, rfl, by decide +kernel, by decide +kernel⟩
abbrev s_law_pot : Stmt := topS 18
theorem sc_law_pot : FnScope ["_law_script", "_law_cells", "_law_cell"] ["_law_script"] (defScope s_law_pot) := ⟨rfl, rfl, rfl, by decide +kernel, rfl, by decide +kernel, by decide +kernel⟩
abbrev s_law_stretch_ok : Stmt := topS 19
theorem sc_law_stretch_ok : FnScope ["_law_words", "_law_movers", "_law_turns", "_law_closes", "_law_drains", "_law_k"] ["_law_words"] (defScope s_law_stretch_ok) := ⟨rfl, rfl, rfl, by decide +kernel, rfl, by decide +kernel, by decide +kernel⟩
abbrev s_law_fenced : Stmt := topS 20
theorem sc_law_fenced : FnScope ["_law_plan", "_law_shows", "_law_k"] ["_law_plan"] (defScope s_law_fenced) := ⟨rfl, rfl, rfl, by decide +kernel, rfl, by decide +kernel, by decide +kernel⟩
abbrev s_law_drawn_plan : Stmt := topS 21
theorem sc_law_drawn_plan : FnScope ["_law_pot_here", "_law_words", "_law_plan", "_law_turn", "_law_row", "_law_at", "_law_k"] ["_law_pot_here"] (defScope s_law_drawn_plan) := ⟨rfl, rfl, rfl, by decide +kernel, rfl, by decide +kernel, by decide +kernel⟩
abbrev s_law_refused : Stmt := topS 22
theorem sc_law_refused : FnScope ["_law_thing", "_law_told", "e"] ["_law_thing"] (defScope s_law_refused) := ⟨rfl, rfl, rfl, by decide +kernel, rfl, by decide +kernel, by decide +kernel⟩
abbrev s_law : Stmt := topS 23
theorem sc_law : FnScope ["_law_script", "_law_pot_here", "_law_plan", "_law_odd", "_law_told"] ["_law_script"] (defScope s_law) := ⟨rfl, rfl, rfl, by decide +kernel, rfl, by decide +kernel, by decide +kernel⟩
structure Txt (K : PySem.W.Frag) (mg : Str → Option Value) where
  a_is_word : Addr
  d_is_word : FuncData
  F_is_word : Fun K "is_word" "is_word" s_is_word a_is_word d_is_word
  g_is_word : mg "is_word" = some (.ref a_is_word)
  b_is_word : Binds K d_is_word ["thing", "words"] []
  a_is_row : Addr
  d_is_row : FuncData
  F_is_row : Fun K "is_row" "is_row" s_is_row a_is_row d_is_row
  g_is_row : mg "is_row" = some (.ref a_is_row)
  b_is_row : Binds K d_is_row ["thing", "low", "high"] []
  a_is_plan : Addr
  d_is_plan : FuncData
  F_is_plan : Fun K "is_plan" "is_plan" s_is_plan a_is_plan d_is_plan
  g_is_plan : mg "is_plan" = some (.ref a_is_plan)
  b_is_plan : Binds K d_is_plan ["thing"] []
  a_check_plan : Addr
  d_check_plan : FuncData
  F_check_plan : Fun K "check_plan" "check_plan" s_check_plan a_check_plan d_check_plan
  g_check_plan : mg "check_plan" = some (.ref a_check_plan)
  b_check_plan : Binds K d_check_plan ["plan"] []
  a_is_fenced : Addr
  d_is_fenced : FuncData
  F_is_fenced : Fun K "is_fenced" "is_fenced" s_is_fenced a_is_fenced d_is_fenced
  g_is_fenced : mg "is_fenced" = some (.ref a_is_fenced)
  b_is_fenced : Binds K d_is_fenced ["plan"] []
  a_is_fenced_part : Addr
  d_is_fenced_part : FuncData
  F_is_fenced_part : Fun K "is_fenced_part" "is_fenced_part" s_is_fenced_part a_is_fenced_part d_is_fenced_part
  g_is_fenced_part : mg "is_fenced_part" = some (.ref a_is_fenced_part)
  b_is_fenced_part : Binds K d_is_fenced_part ["words"] []
  a_words_ahead : Addr
  d_words_ahead : FuncData
  F_words_ahead : Fun K "words_ahead" "words_ahead" s_words_ahead a_words_ahead d_words_ahead
  g_words_ahead : mg "words_ahead" = some (.ref a_words_ahead)
  b_words_ahead : Binds K d_words_ahead ["words", "others"] []
  a_law_draw : Addr
  d_law_draw : FuncData
  F_law_draw : Fun K "_law_draw" "_law_draw" s_law_draw a_law_draw d_law_draw
  g_law_draw : mg "_law_draw" = some (.ref a_law_draw)
  b_law_draw : Binds K d_law_draw ["_law_pot_here", "_law_limit"] []
  a_law_pot : Addr
  d_law_pot : FuncData
  F_law_pot : Fun K "_law_pot" "_law_pot" s_law_pot a_law_pot d_law_pot
  g_law_pot : mg "_law_pot" = some (.ref a_law_pot)
  b_law_pot : Binds K d_law_pot ["_law_script"] []
  a_law_stretch_ok : Addr
  d_law_stretch_ok : FuncData
  F_law_stretch_ok : Fun K "_law_stretch_ok" "_law_stretch_ok" s_law_stretch_ok a_law_stretch_ok d_law_stretch_ok
  g_law_stretch_ok : mg "_law_stretch_ok" = some (.ref a_law_stretch_ok)
  b_law_stretch_ok : Binds K d_law_stretch_ok ["_law_words"] []
  a_law_fenced : Addr
  d_law_fenced : FuncData
  F_law_fenced : Fun K "_law_fenced" "_law_fenced" s_law_fenced a_law_fenced d_law_fenced
  g_law_fenced : mg "_law_fenced" = some (.ref a_law_fenced)
  b_law_fenced : Binds K d_law_fenced ["_law_plan"] []
  a_law_drawn_plan : Addr
  d_law_drawn_plan : FuncData
  F_law_drawn_plan : Fun K "_law_drawn_plan" "_law_drawn_plan" s_law_drawn_plan a_law_drawn_plan d_law_drawn_plan
  g_law_drawn_plan : mg "_law_drawn_plan" = some (.ref a_law_drawn_plan)
  b_law_drawn_plan : Binds K d_law_drawn_plan ["_law_pot_here"] []
  a_law_refused : Addr
  d_law_refused : FuncData
  F_law_refused : Fun K "_law_refused" "_law_refused" s_law_refused a_law_refused d_law_refused
  g_law_refused : mg "_law_refused" = some (.ref a_law_refused)
  b_law_refused : Binds K d_law_refused ["_law_thing"] []
  a_law : Addr
  d_law : FuncData
  F_law : Fun K "law" "law" s_law a_law d_law
  g_law : mg "law" = some (.ref a_law)
  b_law : Binds K d_law ["_law_script"] []
  z_ValueError : mg "ValueError" = none
  z_abs : mg "abs" = none
  z_all : mg "all" = none
  z_bool : mg "bool" = none
  z_enumerate : mg "enumerate" = none
  z_int : mg "int" = none
  z_isinstance : mg "isinstance" = none
  z_len : mg "len" = none
  z_list : mg "list" = none
  z_min : mg "min" = none
  z_range : mg "range" = none
  z_str : mg "str" = none
  z_tuple : mg "tuple" = none
  z_zip : mg "zip" = none
  c_WORDS : Addr
  g_WORDS : mg "WORDS" = some (.ref c_WORDS)
  r_WORDS : RelV (.ref c_WORDS) (.ref c_WORDS)
  q_WORDS : TupK K c_WORDS [.str "show", .str "tell", .str "agree", .str "close", .str "clear", .str "drain", .str "copy", .str "open", .str "drop"]
  u_MOST_WORDS : Value
  g_MOST_WORDS : mg "MOST_WORDS" = some u_MOST_WORDS
  r_MOST_WORDS : RelV (.int 15) u_MOST_WORDS
  u_MOST_SHOWS : Value
  g_MOST_SHOWS : mg "MOST_SHOWS" = some u_MOST_SHOWS
  r_MOST_SHOWS : RelV (.int 2) u_MOST_SHOWS
  C_LaneError : Addr
  g_LaneError : mg "LaneError" = some (.ref C_LaneError)
  x_LaneError : PySem.W.excIn K C_LaneError [.type "ValueError", .type "Exception", .type "BaseException", .type "object"] "ValueError.__new__" = true
  k_LaneError : PySem.W.keepIn K (.ref C_LaneError) = true
  p_LaneError : PySem.W.subIn K (.ref C_LaneError) (.type "BaseException") = some true
  t_LaneError : PySem.W.typeIn K (.ref C_LaneError) = some (.type "type")
  i_LaneError : PySem.W.isClsIn K C_LaneError = true
  C_BadCase : Addr
  g_BadCase : mg "BadCase" = some (.ref C_BadCase)
  x_BadCase : PySem.W.excIn K C_BadCase [.type "ValueError", .type "Exception", .type "BaseException", .type "object"] "ValueError.__new__" = true
  k_BadCase : PySem.W.keepIn K (.ref C_BadCase) = true
  p_BadCase : PySem.W.subIn K (.ref C_BadCase) (.type "BaseException") = some true
  t_BadCase : PySem.W.typeIn K (.ref C_BadCase) = some (.type "type")
  i_BadCase : PySem.W.isClsIn K C_BadCase = true
  q_BadCase_LaneError : PySem.W.subIn K (.ref C_BadCase) (.ref C_LaneError) = some true
  q_BadCase_BadCase : PySem.W.subIn K (.ref C_BadCase) (.ref C_BadCase) = some true
  e_BadCase : ExcC K C_BadCase
  v_BadCase : PySem.W.subIn K (.ref C_BadCase) (.type "ValueError") = some true
def Txt.exc {K : PySem.W.Frag} {mg : Str → Option Value} (T : Txt K mg) (n : String) : Addr := if n = "LaneError" then T.C_LaneError else if n = "BadCase" then T.C_BadCase else 0
abbrev gx {K : PySem.W.Frag} {mg : Str → Option Value} (T : Txt K mg) : Gx := ⟨K, fun n => match n with
  | 0 => T.C_LaneError
  | 1 => T.C_BadCase
  | _ => 0, fun _ => 0⟩
section
variable {P : Program} {w : World} {K : PySem.W.Frag} {mg : Str → Option Value} {base : Heap}
theorem cto_LaneError (T : Txt K mg) : ∀ n b, ct_LaneError n = some b → PySem.W.exmOne (gx T).K (.ref ((gx T).cl n)) (.ref T.C_LaneError) = some b := fun n b h => by
  unfold ct_LaneError at h
  split at h
  · cases h; exact exm_pair T.p_LaneError T.i_LaneError T.t_LaneError T.q_BadCase_LaneError
  · cases h
theorem tbo_BadCase (T : Txt K mg) : ∀ n b, tb_BadCase n = some b → ExcC (gx T).K ((gx T).cl n) ∧ PySem.W.kitOne (gx T).K (.ref ((gx T).cl n)) (.ref T.C_BadCase) = some b := fun n b h => by
  unfold tb_BadCase at h
  split at h
  · cases h; exact ⟨T.e_BadCase, kit_pair T.i_BadCase T.t_BadCase T.q_BadCase_BadCase⟩
  · cases h
theorem tbo_ValueError (T : Txt K mg) : ∀ n b, tb_ValueError n = some b → ExcC (gx T).K ((gx T).cl n) ∧ PySem.W.kitOne (gx T).K (.ref ((gx T).cl n)) (.type "ValueError") = some b := fun n b h => by
  unfold tb_ValueError at h
  split at h
  · cases h; exact ⟨T.e_BadCase, kit_ve T.v_BadCase⟩
  · cases h
theorem ok_is_word (T : Txt K mg) : FnOk P w K mg base (L2.CX P w) 1 T.a_is_word T.d_is_word ["thing", "words"] (spOf (gx T) f_is_word) :=
  fn_ok T.F_is_word sc_is_word rfl rfl rfl fun cdv A outer s H E hr =>
    (pmb_one (pms_ret (pm_and rfl (pm_isi .str rfl rfl T.z_isinstance (by decide +kernel) rfl T.z_str (by decide +kernel) (pmo_v 0)) (pm_one (pm_cmp (op_inP (u200 hr)) ops_in (pmo_v 0) (pmo_v 1) rfl)))))
theorem ok_is_row (T : Txt K mg) : FnOk P w K mg base (L2.CX P w) 1 T.a_is_row T.d_is_row ["thing", "low", "high"] (spOf (gx T) f_is_row) :=
  fn_ok T.F_is_row sc_is_row rfl rfl rfl fun cdv A outer s H E hr =>
    (pmb_one (pms_ret (pm_and rfl (pm_isi .tup rfl rfl T.z_isinstance (by decide +kernel) rfl T.z_tuple (by decide +kernel) (pmo_v 0)) (pm_one (pm_chain op_le ops_Le op_le ops_Le (pm_var 1) (pm_un1 (call_len rfl) uns_len rfl T.z_len (by decide +kernel) (pmo_v 0)) (pm_var 2))))))
theorem ok_words_ahead (T : Txt K mg) : FnOk P w K mg base (L2.CX P w) 1 T.a_words_ahead T.d_words_ahead ["words", "others"] (spOf (gx T) f_words_ahead) :=
  fn_ok T.F_words_ahead sc_words_ahead rfl rfl rfl fun cdv A outer s H E hr =>
    (pmb_cons (pms_setLc 2 [3, 4] rfl sc_words_ahead.nd rfl rfl (sw_true rfl rfl rfl (by decide +kernel)) (pmi_enum rfl rfl T.z_enumerate (pm_var 0)) (blkOk_by (own := [("place", 3), ("word", 4)]) (N := ["words", "others", "places", "place", "word"]) (sc := defScope s_words_ahead) (by decide +kernel)) (fun _ _ _ _ _ => (pmg_pr rfl rfl (pmgs_cons (pmg_name 3 sc_words_ahead.nd rfl (Or.inl rfl) (by decide)) (pmgs_cons (pmg_name 4 sc_words_ahead.nd rfl (Or.inl rfl) (by decide)) pmgs_nil)))) (fun _ _ _ _ _ => (pts_one (pmt_cmp (op_inP (u200 hr)) ops_in (pmo_v 4) (pmo_v 1) rfl))) (fun _ _ _ _ _ => (pm_var 3)) (by decide))
    (pmb_one (pms_ret (pm_sl rfl (pmo_v 0) pmp_no (pmp_at (pm_mindf rfl (u64 hr) rfl rfl T.z_min (by decide +kernel) (pm_var 2) (pm_un1 (call_len rfl) uns_len rfl T.z_len (by decide +kernel) (pmo_v 0))))))))
theorem ok_law_draw (T : Txt K mg) : FnOk P w K mg base (L2.CX P w) 1 T.a_law_draw T.d_law_draw ["_law_pot_here", "_law_limit"] (spOf (gx T) f_law_draw) :=
  fn_draw T.F_law_draw sc_law_draw rfl rfl fun cdv A outer s H E hr =>
    (pss_cons (ps_asg (pv 0) (pg_lst rfl (pgs_cons (pg_name (i := 2) sc_law_draw.nd rfl (Or.inl rfl)) (pgs_cons (pg_name (i := 3) sc_law_draw.nd rfl (Or.inl rfl)) pgs_nil)))) (pss_cons (ps_asg (pe_op op_add (pv 3) pe_int) (pg_sub (pv 0) pe_int set_list)) (pmb_cons (pms_set 4 sc_law_draw.nd rfl (Or.inl rfl) (pm_bin op_mod ops_Mod (pmo_e (pm_ty1 call_int1 uns_int rfl T.z_int (by decide +kernel) (pmo_v 3))) (pmo_e (pm_un1 (call_len rfl) uns_len rfl T.z_len (by decide +kernel) (pmo_v 2)))) (by decide))
    (pmb_cons (pms_set 5 sc_law_draw.nd rfl (Or.inl rfl) (pm_ix rfl (pmo_v 2) (pmo_v 4)) (by decide))
    (pmb_cons (pms_if (pmt_cmp op_ge ops_Ge (pmo_v 5) (pmo_e (pm_bin op_pow ops_Pow (pmo_e pm_int) (pmo_e pm_int))) (nomark _))
    (pmb_cons (pms_put 2 (ps_asg (pm_bin op_fdivW ops_Div (pmo_v 5) (pmo_v 1)) (pg_sub (pv 2) (pm_var 4) set_list)))
    (pmb_one (pms_ret (pm_bin op_mod ops_Mod (pmo_e (pm_ty1 call_int1 uns_int rfl T.z_int (by decide +kernel) (pmo_v 5))) (pmo_v 1)))))
    pmb_nil)
    (pmb_cons (pms_set 6 sc_law_draw.nd rfl (Or.inl rfl) (pm_lst (pmd_cons pm_int (pmd_cons pm_int (pmd_cons pm_int (pmd_cons pm_int (pmd_cons pm_int (pmd_cons pm_int (pmd_cons pm_int (pmd_cons pm_int (pmd_cons pm_int (pmd_cons pm_int (pmd_cons pm_int pmd_nil)))))))))))) (by decide))
    (pmb_cons (pms_set 7 sc_law_draw.nd rfl (Or.inl rfl) (pm_bin op_mod ops_Mod (pmo_e (pm_ty1 call_int1 uns_int rfl T.z_int (by decide +kernel) (pmo_e (pm_bin (op_Mul rfl) ops_Mul' (pmo_e (pm_bin (op_Add rfl) ops_Add (pmo_e (pm_bin (op_Add rfl) ops_Add (pmo_v 5) (pmo_e (pm_bin (op_Mul rfl) ops_Mul' (pmo_e pm_int) (pmo_v 3))))) (pmo_e pm_int))) (pmo_e (pm_bin (op_Add rfl) ops_Add (pmo_e pm_int) (pmo_e (pm_bin (op_Mul rfl) ops_Mul' (pmo_e pm_int) (pmo_v 3))))))))) (pmo_e pm_int)) (by decide))
    (pmb_cons (pms_set 7 sc_law_draw.nd rfl (Or.inl rfl) (pm_bin op_mod ops_Mod (pmo_e (pm_ty1 call_int1 uns_int rfl T.z_int (by decide +kernel) (pmo_e (pm_bin (op_Add rfl) ops_Add (pmo_e (pm_bin (op_Add rfl) ops_Add (pmo_e (pm_bin (op_Mul rfl) ops_Mul' (pmo_v 7) (pmo_v 7))) (pmo_e (pm_bin (op_Mul rfl) ops_Mul' (pmo_e pm_int) (pmo_v 7))))) (pmo_v 3))))) (pmo_e (pm_ix rfl (pmo_v 6) (pmo_e (pm_bin op_mod ops_Mod (pmo_e (pm_ty1 call_int1 uns_int rfl T.z_int (by decide +kernel) (pmo_v 3))) (pmo_e pm_int)))))) (by decide))
    (pmb_one (pms_ret (pm_bin op_mod ops_Mod (pmo_e (pm_ty1 call_int1 uns_int rfl T.z_int (by decide +kernel) (pmo_e (pm_bin op_fdivW ops_Div (pmo_v 7) (pmo_e pm_int))))) (pmo_v 1))))))))))))
theorem ok_law_pot (T : Txt K mg) : FnOk P w K mg base (L2.CX P w) 1 T.a_law_pot T.d_law_pot ["_law_script"] (spOf (gx T) f_law_pot) :=
  fn_ok T.F_law_pot sc_law_pot rfl rfl rfl fun cdv A outer s H E hr =>
    (pmb_cons (pms_setLc 1 [2] rfl sc_law_pot.nd rfl rfl (sw_true rfl rfl rfl (by decide +kernel)) (pmi_seq rfl (pm_var 0)) (blkOk_by (own := [("_law_cell", 2)]) (N := ["_law_script", "_law_cells", "_law_cell"]) (sc := defScope s_law_pot) (by decide +kernel)) (fun _ _ _ _ _ => (pmg_name 2 sc_law_pot.nd rfl (Or.inl rfl) (by decide))) (fun _ _ _ _ _ => pts_nilM) (fun _ _ _ _ _ => (pm_un1 call_abs uns_abs rfl T.z_abs (by decide +kernel) (pmo_v 2))) (by decide))
    (pmb_cons (pms_if (pmt_not (pmt_val rfl (pmo_v 1)))
    (pmb_one (pms_set 1 sc_law_pot.nd rfl (Or.inl rfl) (pm_lst (pmd_cons pm_int pmd_nil)) (by decide)))
    pmb_nil)
    (pmb_one (pms_ret (pm_ll (pma_cons (pm_mv 1) (pma_cons pm_int pma_nil)))))))
theorem ok_law_stretch_ok (T : Txt K mg) : FnOk P w K mg base (L2.CX P w) 1 T.a_law_stretch_ok T.d_law_stretch_ok ["_law_words"] (spOf (gx T) f_law_stretch_ok) :=
  fn_ok T.F_law_stretch_ok sc_law_stretch_ok rfl rfl rfl fun cdv A outer s H E hr =>
    (pmb_cons (pms_setLc 1 [5] rfl sc_law_stretch_ok.nd rfl rfl (sw_true rfl rfl rfl (by decide +kernel)) (pmi_range1 rfl T.z_range (pm_un1 (call_len rfl) uns_len rfl T.z_len (by decide +kernel) (pmo_v 0))) (blkOk_by (own := [("_law_k", 5)]) (N := ["_law_words", "_law_movers", "_law_turns", "_law_closes", "_law_drains", "_law_k"]) (sc := defScope s_law_stretch_ok) (by decide +kernel)) (fun _ _ _ _ _ => (pmg_name 5 sc_law_stretch_ok.nd rfl (Or.inl rfl) (by decide))) (fun _ _ _ _ _ => (pts_one (pmt_cmp (op_inP (u200 hr)) ops_in (pmo_e (pm_ix rfl (pmo_v 0) (pmo_v 5))) (pmo_e (pm_lst (pmd_cons pm_str (pmd_cons pm_str (pmd_cons pm_str pmd_nil))))) rfl))) (fun _ _ _ _ _ => (pm_var 5)) (by decide))
    (pmb_cons (pms_setLc 2 [5] rfl sc_law_stretch_ok.nd rfl rfl (sw_true rfl rfl rfl (by decide +kernel)) (pmi_seq rfl (pm_var 1)) (blkOk_by (own := [("_law_k", 5)]) (N := ["_law_words", "_law_movers", "_law_turns", "_law_closes", "_law_drains", "_law_k"]) (sc := defScope s_law_stretch_ok) (by decide +kernel)) (fun _ _ _ _ _ => (pmg_name 5 sc_law_stretch_ok.nd rfl (Or.inl rfl) (by decide))) (fun _ _ _ _ _ => (pts_one (pmt_cmp (op_neP (u200 hr)) ops_eq (pmo_e (pm_ix rfl (pmo_v 0) (pmo_v 5))) (pmo_e pm_str) (nomark _)))) (fun _ _ _ _ _ => (pm_var 5)) (by decide))
    (pmb_cons (pms_set 3 sc_law_stretch_ok.nd rfl (Or.inr rfl) (pm_lc [5] rfl sc_law_stretch_ok.nd (pmi_range1 rfl T.z_range (pm_un1 (call_len rfl) uns_len rfl T.z_len (by decide +kernel) (pmo_v 0))) (blkOk_by (own := [("_law_k", 5)]) (N := ["_law_words", "_law_movers", "_law_turns", "_law_closes", "_law_drains", "_law_k"]) (sc := defScope s_law_stretch_ok) (by decide +kernel)) (fun _ _ _ _ _ => (pmg_name 5 sc_law_stretch_ok.nd rfl (Or.inl rfl) (by decide))) (fun _ _ _ _ _ => (pts_one (pmt_cmp (op_eqP (u200 hr)) ops_eq (pmo_e (pm_ix rfl (pmo_v 0) (pmo_v 5))) (pmo_e pm_str) (nomark _)))) (fun _ _ _ _ _ => (pm_var 5))) (by decide))
    (pmb_cons (pms_if (pmw_pt (pmw_and (pmt_val rfl (pmo_v 1)) (pmw_and1 (pmw_pt (pmw_or (pmt_not (pmt_val rfl (pmo_v 3))) (pmw_or1 (pmt_cmp op_gt ops_Gt (pmo_e (pm_ix rfl (pmo_v 3) (pmo_e pm_int))) (pmo_e (pm_ix rfl (pmo_v 1) (pmo_e pm_int))) (nomark _))))))))
    (pmb_one (pms_ret pm_bl))
    pmb_nil)
    (pmb_cons (pms_if (pmt_val rfl (pmo_v 2))
    (pmb_cons (pms_setLc 4 [5] rfl sc_law_stretch_ok.nd rfl rfl (sw_true rfl rfl rfl (by decide +kernel)) (pmi_range1 rfl T.z_range (pm_ix rfl (pmo_v 2) (pmo_e pm_int))) (blkOk_by (own := [("_law_k", 5)]) (N := ["_law_words", "_law_movers", "_law_turns", "_law_closes", "_law_drains", "_law_k"]) (sc := defScope s_law_stretch_ok) (by decide +kernel)) (fun _ _ _ _ _ => (pmg_name 5 sc_law_stretch_ok.nd rfl (Or.inl rfl) (by decide))) (fun _ _ _ _ _ => (pts_one (pmw_pt (pmw_and (pmt_cmp (op_eqP (u200 hr)) ops_eq (pmo_e (pm_ix rfl (pmo_v 0) (pmo_v 5))) (pmo_e pm_str) (nomark _)) (pmw_and1 (pmt_cmp op_lt ops_Lt (pmo_e (pm_ix rfl (pmo_v 3) (pmo_e pm_int))) (pmo_v 5) (nomark _))))))) (fun _ _ _ _ _ => (pm_var 5)) (by decide))
    (pmb_one (pms_ret (pm_cmp op_gt ops_Gt (pmo_e (pm_un1 (call_len rfl) uns_len rfl T.z_len (by decide +kernel) (pmo_v 4))) (pmo_e pm_int) (nomark _)))))
    pmb_nil)
    (pmb_one (pms_ret pm_bl)))))))
theorem ok_is_plan (T : Txt K mg) : FnOk P w K mg base (L2.CX P w) 2 T.a_is_plan T.d_is_plan ["thing"] (spOf (gx T) f_is_plan) :=
  fn_ok T.F_is_plan sc_is_plan rfl rfl rfl fun cdv A outer s H E hr =>
    (pmb_cons (pms_if (pmt_not (pmt_val rfl (pmo_e (pm_call (takes_of rfl rfl rfl rfl) (ok_is_row T) (hr.mono (by decide)) rfl T.g_is_row T.F_is_row.kp T.b_is_row (pmc_var 0 (pmc_cons pm_int (pmc_cons (pm_c (pe_glob rfl T.g_MOST_WORDS T.r_MOST_WORDS) (fun _ _ => .int _)) pmc_nil)))))))
    (pmb_one (pms_ret pm_bl))
    pmb_nil)
    (pmb_one (pms_ret (pm_and rfl (pm_un1 (Lc.cr_allK _ rfl) uns_all rfl T.z_all (by decide +kernel) (pmo_e (pm_lc [1] rfl sc_is_plan.nd (pmi_seq rfl (pm_var 0)) (blkOk_by (own := [("word", 1)]) (N := ["thing", "word"]) (sc := defScope s_is_plan) (by decide +kernel)) (fun _ _ _ _ _ => (pmg_name 1 sc_is_plan.nd rfl (Or.inl rfl) (by decide))) (fun _ _ _ _ _ => pts_nilM) (fun _ _ _ _ _ => (pm_call takes0 (ok_is_word T) (hr.mono (by decide)) rfl T.g_is_word T.F_is_word.kp T.b_is_word (pmc_var 1 (pmc_cons (pm_c (pe_glob rfl T.g_WORDS T.r_WORDS) (fun _ _ => .tupK T.q_WORDS (.cons (.str _) (.cons (.str _) (.cons (.str _) (.cons (.str _) (.cons (.str _) (.cons (.str _) (.cons (.str _) (.cons (.str _) (.cons (.str _) .nil))))))))))) pmc_nil))))))) (pm_one (pm_chain op_le ops_Le op_le ops_Le pm_int (pm_tcnt rfl (u64 hr) (pm_var 0) pm_str) (pm_c (pe_glob rfl T.g_MOST_SHOWS T.r_MOST_SHOWS) (fun _ _ => .int _))))))))
theorem ok_is_fenced_part (T : Txt K mg) : FnOk P w K mg base (L2.CX P w) 2 T.a_is_fenced_part T.d_is_fenced_part ["words"] (spOf (gx T) f_is_fenced_part) :=
  fn_ok T.F_is_fenced_part sc_is_fenced_part rfl rfl rfl fun cdv A outer s H E hr =>
    (pmb_cons (pms_set 1 sc_is_fenced_part.nd rfl (Or.inl rfl) (pm_call (takes_of rfl rfl rfl rfl) (ok_words_ahead T) (hr.mono (by decide)) rfl T.g_words_ahead T.F_words_ahead.kp T.b_words_ahead (pmc_var 0 (pmc_cons (pm_tup (pmd_cons pm_str (pmd_cons pm_str (pmd_cons pm_str pmd_nil)))) pmc_nil))) (by decide))
    (pmb_cons (pms_if (pmw_pt (pmw_and (pmt_cmp op_lt ops_Lt (pmo_e (pm_un1 (call_len rfl) uns_len rfl T.z_len (by decide +kernel) (pmo_v 1))) (pmo_e (pm_un1 (call_len rfl) uns_len rfl T.z_len (by decide +kernel) (pmo_v 0))) (nomark _)) (pmw_and1 (pmt_cmp (op_ninP (u200 hr)) ops_in (pmo_e pm_str) (pmo_v 1) rfl))))
    (pmb_one (pms_ret pm_bl))
    pmb_nil)
    (pmb_cons (pms_set 1 sc_is_fenced_part.nd rfl (Or.inl rfl) (pm_call (takes_of rfl rfl rfl rfl) (ok_words_ahead T) (hr.mono (by decide)) rfl T.g_words_ahead T.F_words_ahead.kp T.b_words_ahead (pmc_var 0 (pmc_cons (pm_tup (pmd_cons pm_str (pmd_cons pm_str pmd_nil))) pmc_nil))) (by decide))
    (pmb_cons (pms_if (pmt_cmp (op_eqP (u200 hr)) ops_eq (pmo_e (pm_un1 (call_len rfl) uns_len rfl T.z_len (by decide +kernel) (pmo_v 1))) (pmo_e (pm_un1 (call_len rfl) uns_len rfl T.z_len (by decide +kernel) (pmo_v 0))) (nomark _))
    (pmb_one (pms_ret pm_bl))
    pmb_nil)
    (pmb_one (pms_ret (pm_cmp (op_inP (u200 hr)) ops_in (pmo_e pm_str) (pmo_e (pm_sl rfl (pmo_v 1) (pmp_at (pm_tidx rfl (pm_var 1) pm_str)) pmp_no)) rfl)))))))
theorem ok_law_fenced (T : Txt K mg) : FnOk P w K mg base (L2.CX P w) 2 T.a_law_fenced T.d_law_fenced ["_law_plan"] (spOf (gx T) f_law_fenced) :=
  fn_ok T.F_law_fenced sc_law_fenced rfl rfl rfl fun cdv A outer s H E hr =>
    (pmb_cons (pms_set 1 sc_law_fenced.nd rfl (Or.inr rfl) (pm_bin (op_Add rfl) ops_Add (pmo_e (pm_lc [2] rfl sc_law_fenced.nd (pmi_range1 rfl T.z_range (pm_un1 (call_len rfl) uns_len rfl T.z_len (by decide +kernel) (pmo_v 0))) (blkOk_by (own := [("_law_k", 2)]) (N := ["_law_plan", "_law_shows", "_law_k"]) (sc := defScope s_law_fenced) (by decide +kernel)) (fun _ _ _ _ _ => (pmg_name 2 sc_law_fenced.nd rfl (Or.inl rfl) (by decide))) (fun _ _ _ _ _ => (pts_one (pmt_cmp (op_eqP (u200 hr)) ops_eq (pmo_e (pm_ix rfl (pmo_v 0) (pmo_v 2))) (pmo_e pm_str) (nomark _)))) (fun _ _ _ _ _ => (pm_var 2)))) (pmo_e (pm_lst (pmd_cons (pm_un1 (call_len rfl) uns_len rfl T.z_len (by decide +kernel) (pmo_v 0)) pmd_nil)))) (by decide))
    (pmb_one (pms_ret (pm_un1 (Lc.cr_allK _ rfl) uns_all rfl T.z_all (by decide +kernel) (pmo_e (pm_lc [2] rfl sc_law_fenced.nd (pmi_range1 rfl T.z_range (pm_bin op_sub ops_Sub (pmo_e (pm_un1 (call_len rfl) uns_len rfl T.z_len (by decide +kernel) (pmo_v 1))) (pmo_e pm_int))) (blkOk_by (own := [("_law_k", 2)]) (N := ["_law_plan", "_law_shows", "_law_k"]) (sc := defScope s_law_fenced) (by decide +kernel)) (fun _ _ _ _ _ => (pmg_name 2 sc_law_fenced.nd rfl (Or.inl rfl) (by decide))) (fun _ _ _ _ _ => pts_nilM) (fun _ _ _ _ _ => (pm_call takes0 (ok_law_stretch_ok T) (hr.mono (by decide)) rfl T.g_law_stretch_ok T.F_law_stretch_ok.kp T.b_law_stretch_ok (pmc_cons (pm_sl rfl (pmo_v 0) (pmp_at (pm_bin (op_Add rfl) ops_Add (pmo_e (pm_ix rfl (pmo_v 1) (pmo_v 2))) (pmo_e pm_int))) (pmp_at (pm_ix rfl (pmo_v 1) (pmo_e (pm_bin (op_Add rfl) ops_Add (pmo_v 2) (pmo_e pm_int)))))) pmc_nil)))))))))
theorem ok_law_drawn_plan (T : Txt K mg) : FnOk P w K mg base (L2.CX P w) 2 T.a_law_drawn_plan T.d_law_drawn_plan ["_law_pot_here"] (spOf (gx T) f_law_drawn_plan) :=
  fn_ok T.F_law_drawn_plan sc_law_drawn_plan rfl rfl rfl fun cdv A outer s H E hr =>
    (pmb_cons (pms_set 1 sc_law_drawn_plan.nd rfl (Or.inr rfl) (pm_lst (pmd_cons pm_str (pmd_cons pm_str (pmd_cons pm_str (pmd_cons pm_str (pmd_cons pm_str (pmd_cons pm_str (pmd_cons pm_str (pmd_cons pm_str pmd_nil))))))))) (by decide))
    (pmb_cons (pms_if (pmt_cmp (op_eqP (u200 hr)) ops_eq (pmo_e (pm_call (takes_of rfl rfl rfl rfl) (ok_law_draw T) (hr.mono (by decide)) rfl T.g_law_draw T.F_law_draw.kp T.b_law_draw (pmc_var 0 (pmc_cons pm_int pmc_nil)))) (pmo_e pm_int) (nomark _))
    (pmb_cons (pms_setLc 2 [6] rfl sc_law_drawn_plan.nd rfl rfl (sw_true rfl rfl rfl (by decide +kernel)) (pmi_range1 rfl T.z_range (pm_call (takes_of rfl rfl rfl rfl) (ok_law_draw T) (hr.mono (by decide)) rfl T.g_law_draw T.F_law_draw.kp T.b_law_draw (pmc_var 0 (pmc_cons pm_int pmc_nil)))) (blkOk_by (own := [("_law_k", 6)]) (N := ["_law_pot_here", "_law_words", "_law_plan", "_law_turn", "_law_row", "_law_at", "_law_k"]) (sc := defScope s_law_drawn_plan) (by decide +kernel)) (fun _ _ _ _ _ => (pmg_name 6 sc_law_drawn_plan.nd rfl (Or.inl rfl) (by decide))) (fun _ _ _ _ _ => pts_nilM) (fun _ _ _ _ _ => (pm_ix rfl (pmo_v 1) (pmo_e (pm_call takes0 (ok_law_draw T) (hr.mono (by decide)) rfl T.g_law_draw T.F_law_draw.kp T.b_law_draw (pmc_var 0 (pmc_cons pm_int pmc_nil)))))) (by decide))
    (pmb_cons (pms_for (vs := [3]) (passes_of rfl) rfl (pmi_range1 rfl T.z_range (pm_bin (op_Add rfl) ops_Add (pmo_e pm_int) (pmo_e (pm_call (takes_of rfl rfl rfl rfl) (ok_law_draw T) (hr.mono (by decide)) rfl T.g_law_draw T.F_law_draw.kp T.b_law_draw (pmc_var 0 (pmc_cons pm_int pmc_nil)))))) (pmg_name 3 sc_law_drawn_plan.nd rfl (Or.inl rfl) (by decide))
    (pmb_one (pms_ins 2 (pe_bm PySem.F.plainAttrs_list PySem.F.slot_list_insert PySem.F.type_list_insert mt_ins (pv 2) (pa_cons (pm_call (takes_of rfl rfl rfl rfl) (ok_law_draw T) (hr.mono (by decide)) rfl T.g_law_draw T.F_law_draw.kp T.b_law_draw (pmc_var 0 (pmc_cons (pm_bin (op_Add rfl) ops_Add (pmo_e (pm_un1 (call_len rfl) uns_len rfl T.z_len (by decide +kernel) (pmo_v 2))) (pmo_e pm_int)) pmc_nil))) (pa_cons pm_str pa_nil))))) (by decide))
    (pmb_one (pms_ret (pm_tupOf rfl rfl T.z_tuple (pmo_v 2))))))
    pmb_nil)
    (pmb_cons (pms_setLc 2 [6] rfl sc_law_drawn_plan.nd rfl rfl (sw_true rfl rfl rfl (by decide +kernel)) (pmi_range1 rfl T.z_range (pm_call (takes_of rfl rfl rfl rfl) (ok_law_draw T) (hr.mono (by decide)) rfl T.g_law_draw T.F_law_draw.kp T.b_law_draw (pmc_var 0 (pmc_cons pm_int pmc_nil)))) (blkOk_by (own := [("_law_k", 6)]) (N := ["_law_pot_here", "_law_words", "_law_plan", "_law_turn", "_law_row", "_law_at", "_law_k"]) (sc := defScope s_law_drawn_plan) (by decide +kernel)) (fun _ _ _ _ _ => (pmg_name 6 sc_law_drawn_plan.nd rfl (Or.inl rfl) (by decide))) (fun _ _ _ _ _ => pts_nilM) (fun _ _ _ _ _ => (pm_ix rfl (pmo_v 1) (pmo_e (pm_call takes0 (ok_law_draw T) (hr.mono (by decide)) rfl T.g_law_draw T.F_law_draw.kp T.b_law_draw (pmc_var 0 (pmc_cons pm_int pmc_nil)))))) (by decide))
    (pmb_cons (pms_for (vs := [3]) (passes_of rfl) rfl (pmi_range1 rfl T.z_range (pm_bin (op_Add rfl) ops_Add (pmo_e pm_int) (pmo_e (pm_call (takes_of rfl rfl rfl rfl) (ok_law_draw T) (hr.mono (by decide)) rfl T.g_law_draw T.F_law_draw.kp T.b_law_draw (pmc_var 0 (pmc_cons pm_int pmc_nil)))))) (pmg_name 3 sc_law_drawn_plan.nd rfl (Or.inl rfl) (by decide))
    (pmb_cons (pms_set 4 sc_law_drawn_plan.nd rfl (Or.inl rfl) (pm_lst (pmd_cons pm_str (pmd_cons pm_str (pmd_cons pm_str (pmd_cons (pm_ix rfl (pmo_e (pm_lst (pmd_cons pm_str (pmd_cons pm_str pmd_nil)))) (pmo_e (pm_call (takes_of rfl rfl rfl rfl) (ok_law_draw T) (hr.mono (by decide)) rfl T.g_law_draw T.F_law_draw.kp T.b_law_draw (pmc_var 0 (pmc_cons pm_int pmc_nil))))) pmd_nil))))) (by decide))
    (pmb_cons (pms_ins 4 (pe_bm PySem.F.plainAttrs_list PySem.F.slot_list_insert PySem.F.type_list_insert mt_ins (pv 4) (pa_cons (pm_bin (op_Add rfl) ops_Add (pmo_e pm_int) (pmo_e (pm_call (takes_of rfl rfl rfl rfl) (ok_law_draw T) (hr.mono (by decide)) rfl T.g_law_draw T.F_law_draw.kp T.b_law_draw (pmc_var 0 (pmc_cons pm_int pmc_nil))))) (pa_cons (pm_ix rfl (pmo_v 1) (pmo_e (pm_call (takes_of rfl rfl rfl rfl) (ok_law_draw T) (hr.mono (by decide)) rfl T.g_law_draw T.F_law_draw.kp T.b_law_draw (pmc_var 0 (pmc_cons pm_int pmc_nil))))) pa_nil))))
    (pmb_one (pms_set 2 sc_law_drawn_plan.nd rfl (Or.inl rfl) (pm_bin (op_Add rfl) ops_Add (pmo_v 2) (pmo_v 4)) (by decide))))) (by decide))
    (pmb_cons (pms_set 5 sc_law_drawn_plan.nd rfl (Or.inl rfl) (pm_call (takes_of rfl rfl rfl rfl) (ok_law_draw T) (hr.mono (by decide)) rfl T.g_law_draw T.F_law_draw.kp T.b_law_draw (pmc_var 0 (pmc_cons (pm_un1 (call_len rfl) uns_len rfl T.z_len (by decide +kernel) (pmo_v 2)) pmc_nil))) (by decide))
    (pmb_cons (pms_if (pmw_pt (pmw_and (pmt_cmp op_gt ops_Gt (pmo_e (pm_call (takes_of rfl rfl rfl rfl) (ok_law_draw T) (hr.mono (by decide)) rfl T.g_law_draw T.F_law_draw.kp T.b_law_draw (pmc_var 0 (pmc_cons pm_int pmc_nil)))) (pmo_e pm_int) (nomark _)) (pmw_and1 (pmt_cmp (op_neP (u200 hr)) ops_eq (pmo_e (pm_ix rfl (pmo_v 2) (pmo_v 5))) (pmo_e pm_str) (nomark _)))))
    (pmb_one (pms_put 2 (ps_asg (pm_ix rfl (pmo_v 1) (pmo_e (pm_call (takes_of rfl rfl rfl rfl) (ok_law_draw T) (hr.mono (by decide)) rfl T.g_law_draw T.F_law_draw.kp T.b_law_draw (pmc_var 0 (pmc_cons pm_int pmc_nil))))) (pg_sub (pv 2) (pm_var 5) set_list))))
    pmb_nil)
    (pmb_one (pms_ret (pm_tupOf rfl rfl T.z_tuple (pmo_v 2))))))))))
theorem ok_check_plan (T : Txt K mg) : FnOk P w K mg base (L2.CX P w) 3 T.a_check_plan T.d_check_plan ["plan"] (spOf (gx T) f_check_plan) :=
  fn_ok T.F_check_plan sc_check_plan rfl rfl rfl fun cdv A outer s H E hr =>
    (pmb_one (pms_if (pmt_not (pmt_val rfl (pmo_e (pm_call (takes_of rfl rfl rfl rfl) (ok_is_plan T) (hr.mono (by decide)) rfl T.g_is_plan T.F_is_plan.kp T.b_is_plan (pmc_var 0 pmc_nil)))))
    (pmb_one (pms_raise 1 rfl (takes_of rfl rfl rfl rfl) (pmk_own PySem.F.excBase_ValueError T.x_BadCase T.g_BadCase T.k_BadCase (raises_own T.p_BadCase T.t_BadCase) rfl)))
    pmb_nil))
theorem ok_is_fenced (T : Txt K mg) : FnOk P w K mg base (L2.CX P w) 4 T.a_is_fenced T.d_is_fenced ["plan"] (spOf (gx T) f_is_fenced) :=
  fn_ok T.F_is_fenced sc_is_fenced rfl rfl rfl fun cdv A outer s H E hr =>
    (pmb_cons (pms_do (pm_call (takes_of rfl rfl rfl rfl) (ok_check_plan T) (hr.mono (by decide)) rfl T.g_check_plan T.F_check_plan.kp T.b_check_plan (pmc_var 0 pmc_nil)))
    (pmb_cons (pms_setLc 1 [3, 4] rfl sc_is_fenced.nd rfl rfl (sw_true rfl rfl rfl (by decide +kernel)) (pmi_enum rfl rfl T.z_enumerate (pm_var 0)) (blkOk_by (own := [("place", 3), ("word", 4)]) (N := ["plan", "shows", "ends", "place", "word", "show", "end"]) (sc := defScope s_is_fenced) (by decide +kernel)) (fun _ _ _ _ _ => (pmg_pr rfl rfl (pmgs_cons (pmg_name 3 sc_is_fenced.nd rfl (Or.inl rfl) (by decide)) (pmgs_cons (pmg_name 4 sc_is_fenced.nd rfl (Or.inl rfl) (by decide)) pmgs_nil)))) (fun _ _ _ _ _ => (pts_one (pmt_cmp (op_eqP (u200 hr)) ops_eq (pmo_v 4) (pmo_e pm_str) (nomark _)))) (fun _ _ _ _ _ => (pm_var 3)) (by decide))
    (pmb_cons (pms_set 2 sc_is_fenced.nd rfl (Or.inl rfl) (pm_lst (pmd_star rfl (pmo_e (pm_sl rfl (pmo_v 1) (pmp_at pm_int) pmp_no)) (pmd_cons (pm_un1 (call_len rfl) uns_len rfl T.z_len (by decide +kernel) (pmo_v 0)) pmd_nil))) (by decide))
    (pmb_one (pms_ret (pm_un1 (Lc.cr_allK _ rfl) uns_all rfl T.z_all (by decide +kernel) (pmo_e (pm_lc [5, 6] rfl sc_is_fenced.nd (pmi_zip rfl rfl T.z_zip (pm_var 1) (pm_var 2)) (blkOk_by (own := [("show", 5), ("end", 6)]) (N := ["plan", "shows", "ends", "place", "word", "show", "end"]) (sc := defScope s_is_fenced) (by decide +kernel)) (fun _ _ _ _ _ => (pmg_pr rfl rfl (pmgs_cons (pmg_name 5 sc_is_fenced.nd rfl (Or.inl rfl) (by decide)) (pmgs_cons (pmg_name 6 sc_is_fenced.nd rfl (Or.inl rfl) (by decide)) pmgs_nil)))) (fun _ _ _ _ _ => pts_nilM) (fun _ _ _ _ _ => (pm_call takes0 (ok_is_fenced_part T) (hr.mono (by decide)) rfl T.g_is_fenced_part T.F_is_fenced_part.kp T.b_is_fenced_part (pmc_cons (pm_sl rfl (pmo_v 0) (pmp_at (pm_bin (op_Add rfl) ops_Add (pmo_v 5) (pmo_e pm_int))) (pmp_at (pm_var 6))) pmc_nil)))))))))))
theorem ok_law_refused (T : Txt K mg) : FnOk P w K mg base (L2.CX P w) 5 T.a_law_refused T.d_law_refused ["_law_thing"] (spOf (gx T) f_law_refused) :=
  fn_ok T.F_law_refused sc_law_refused rfl rfl rfl fun cdv A outer s H E hr =>
    (pmb_cons (pms_set 1 sc_law_refused.nd rfl (Or.inl rfl) pm_int (by decide))
    (pmb_cons (pms_try rfl rfl rfl sc_law_refused.nd (fun W pn xe tk _ => (pmb_one (pms_do (pm_call tk (ok_is_fenced T) (hr.mono (by decide)) rfl T.g_is_fenced T.F_is_fenced.kp T.b_is_fenced (pmc_var 0 pmc_nil))))) (.named (i := 2) ⟨rfl, by decide, .inl T.g_LaneError⟩ rfl rfl (by decide) (cto_LaneError T) (fun a oe xx d pn hz hd hf => (pmb_cons (pms_set 1 sc_law_refused.nd rfl (Or.inl rfl) pm_int (by decide))
    (pmb_one (pms_if (pmw_pt (pmw_and (pmt_val rfl (pmo_e (pm_isx (c := (.ref T.C_BadCase)) (cv := (.ref T.C_BadCase)) 2 hz hd hf rfl (tbo_BadCase T) (fun _ h => h) rfl T.z_isinstance (pe_glob (v := .ref T.C_BadCase) rfl T.g_BadCase rfl)))) (pmw_and1 (pmt_val rfl (pmo_e (pm_isx (c := (.ty "ValueError")) (cv := (.type "ValueError")) 2 hz hd hf rfl (tbo_ValueError T) (fun _ h => h) rfl T.z_isinstance (pe_bltn (v := .ty "ValueError") rfl T.z_ValueError (by decide +kernel) rfl)))))))
    (pmb_one (pms_set 1 sc_law_refused.nd rfl (Or.inl rfl) pm_int (by decide)))
    pmb_nil)))) .nil))
    (pmb_one (pms_ret (pm_cmp (op_eqP (u200 hr)) ops_eq (pmo_v 1) (pmo_e pm_int) (nomark _))))))
theorem ok_law (T : Txt K mg) : FnOk P w K mg base (L2.CX P w) 6 T.a_law T.d_law ["_law_script"] (spOf (gx T) f_law) :=
  fn_ok T.F_law sc_law rfl rfl rfl fun cdv A outer s H E hr =>
    (pmb_cons (pms_set 1 sc_law.nd rfl (Or.inl rfl) (pm_call (takes_of rfl rfl rfl rfl) (ok_law_pot T) (hr.mono (by decide)) rfl T.g_law_pot T.F_law_pot.kp T.b_law_pot (pmc_var 0 pmc_nil)) (by decide))
    (pmb_cons (pms_set 2 sc_law.nd rfl (Or.inl rfl) (pm_call (takes_of rfl rfl rfl rfl) (ok_law_drawn_plan T) (hr.mono (by decide)) rfl T.g_law_drawn_plan T.F_law_drawn_plan.kp T.b_law_drawn_plan (pmc_var 1 pmc_nil)) (by decide))
    (pmb_cons (pms_if (pmt_cmp (op_eqP (u200 hr)) ops_eq (pmo_e (pm_call (takes_of rfl rfl rfl rfl) (ok_law_draw T) (hr.mono (by decide)) rfl T.g_law_draw T.F_law_draw.kp T.b_law_draw (pmc_var 1 (pmc_cons pm_int pmc_nil)))) (pmo_e pm_int) (nomark _))
    (pmb_cons (pms_set 3 sc_law.nd rfl (Or.inl rfl) (pm_lst (pmd_cons (pm_ty1 (call_list rfl) uns_list rfl T.z_list (by decide +kernel) (pmo_v 2)) (pmd_cons (pm_bin (op_Add rfl) ops_Add (pmo_v 2) (pmo_e (pm_bin (op_Mul rfl) ops_Mul' (pmo_e (pm_tup (pmd_cons pm_str pmd_nil))) (pmo_e pm_int)))) (pmd_cons (pm_bin (op_Add rfl) ops_Add (pmo_v 2) (pmo_e (pm_tup (pmd_cons pm_str pmd_nil)))) (pmd_cons (pm_bin (op_Add rfl) ops_Add (pmo_v 2) (pmo_e (pm_tup (pmd_cons pm_int pmd_nil)))) (pmd_cons (pm_tup pmd_nil) (pmd_cons pm_non (pmd_cons pm_str (pmd_cons pm_int pmd_nil))))))))) (by decide))
    (pmb_cons (pms_set 3 sc_law.nd rfl (Or.inl rfl) (pm_bin (op_Add rfl) ops_Add (pmo_v 3) (pmo_e (pm_lst (pmd_cons (pm_tup (pmd_cons pm_str (pmd_cons pm_str pmd_nil))) (pmd_cons (pm_tup (pmd_cons (pm_var 2) pmd_nil)) (pmd_cons (pm_tup (pmd_cons pm_str (pmd_cons pm_non pmd_nil))) (pmd_cons (pm_tup (pmd_cons pm_str pmd_nil)) (pmd_cons (pm_tup (pmd_cons pm_bl pmd_nil)) (pmd_cons (pm_bin (op_Add rfl) ops_Add (pmo_e (pm_tup (pmd_cons pm_str pmd_nil))) (pmo_e (pm_bin (op_Mul rfl) ops_Mul' (pmo_e (pm_tup (pmd_cons pm_str pmd_nil))) (pmo_e pm_int)))) pmd_nil))))))))) (by decide))
    (pmb_cons (pms_set 3 sc_law.nd rfl (Or.inl rfl) (pm_bin (op_Add rfl) ops_Add (pmo_v 3) (pmo_e (pm_lst (pmd_cons (pm_tup (pmd_cons pm_str (pmd_cons (pm_tup (pmd_cons pm_str pmd_nil)) pmd_nil))) pmd_nil)))) (by decide))
    (pmb_one (pms_ret (pm_call (takes_of rfl rfl rfl rfl) (ok_law_refused T) (hr.mono (by decide)) rfl T.g_law_refused T.F_law_refused.kp T.b_law_refused (pmc_cons (pm_ix rfl (pmo_v 3) (pmo_e (pm_call (takes_of rfl rfl rfl rfl) (ok_law_draw T) (hr.mono (by decide)) rfl T.g_law_draw T.F_law_draw.kp T.b_law_draw (pmc_var 1 (pmc_cons pm_int pmc_nil))))) pmc_nil)))))))
    pmb_nil)
    (pmb_cons (pms_set 4 sc_law.nd rfl (Or.inl rfl) (pm_call (takes_of rfl rfl rfl rfl) (ok_is_fenced T) (hr.mono (by decide)) rfl T.g_is_fenced T.F_is_fenced.kp T.b_is_fenced (pmc_var 2 pmc_nil)) (by decide))
    (pmb_one (pms_ret (pm_and rfl (pm_isi .bool rfl rfl T.z_isinstance (by decide +kernel) rfl T.z_bool (by decide +kernel) (pmo_v 4)) (pm_one (pm_cmp (op_eqP (u200 hr)) ops_eq (pmo_v 4) (pmo_e (pm_call (takes_of rfl rfl rfl rfl) (ok_law_fenced T) (hr.mono (by decide)) rfl T.g_law_fenced T.F_law_fenced.kp T.b_law_fenced (pmc_var 2 pmc_nil))) (nomark _))))))))))
end
end K48

namespace K48
open PySem PySem.Spec PyProof.Rows L2 RZ PySem.W Rx
open Lc (Tp AS And1 ButS Lv minL maxL)
abbrev spLaw := Rx.spLaw
theorem ok_lawF {P : Program} {w : World} {K : PySem.W.Frag} {mg : Str → Option Value} {base : Heap} (T : Txt K mg) : FnOk P w K mg base CX0 6 T.a_law T.d_law ["_law_script"] (spLaw K) := FnOk.calm (ok_law T) (law_sp (G := gx T) law_ok)
theorem all_mk {P : Program} {w : World} {K : PySem.W.Frag} {h : Heap} {mg : Str → Option Value} {fa f_is_word f_is_row f_is_plan f_check_plan f_is_fenced f_is_fenced_part f_words_ahead f_law_draw f_law_pot f_law_stretch_ok f_law_fenced f_law_drawn_plan f_law_refused C_LaneError C_BadCase c_WORDS : Addr}
    (X : K.In h) (G : h.Ns mainGlobals mg) (hfa : mg "law" = some (.ref fa))
    {oc_is_word kV_is_word dc_is_word pm_is_word cd_is_word ct_is_word : Value} {od_is_word an_is_word : Option Addr} {sl_is_word : Array (Option Value)}
    (a_is_word : PySem.W.nsIn K mainGlobals "is_word" = some (some (.ref f_is_word)))
    (l_is_word : K.lookup f_is_word = some ⟨oc_is_word, od_is_word, .func (PySem.W.fnOf "is_word" "is_word" (defArgs s_is_word) (defBody s_is_word) (defScope s_is_word) .none kV_is_word dc_is_word pm_is_word an_is_word cd_is_word ct_is_word), sl_is_word⟩)
    (c_is_word : PySem.W.codeIn K cd_is_word "is_word" = true) (k_is_word : PySem.W.keepIn K (.ref f_is_word) = true)
    {oc_is_row kV_is_row dc_is_row pm_is_row cd_is_row ct_is_row : Value} {od_is_row an_is_row : Option Addr} {sl_is_row : Array (Option Value)}
    (a_is_row : PySem.W.nsIn K mainGlobals "is_row" = some (some (.ref f_is_row)))
    (l_is_row : K.lookup f_is_row = some ⟨oc_is_row, od_is_row, .func (PySem.W.fnOf "is_row" "is_row" (defArgs s_is_row) (defBody s_is_row) (defScope s_is_row) .none kV_is_row dc_is_row pm_is_row an_is_row cd_is_row ct_is_row), sl_is_row⟩)
    (c_is_row : PySem.W.codeIn K cd_is_row "is_row" = true) (k_is_row : PySem.W.keepIn K (.ref f_is_row) = true)
    {oc_is_plan kV_is_plan dc_is_plan pm_is_plan cd_is_plan ct_is_plan : Value} {od_is_plan an_is_plan : Option Addr} {sl_is_plan : Array (Option Value)}
    (a_is_plan : PySem.W.nsIn K mainGlobals "is_plan" = some (some (.ref f_is_plan)))
    (l_is_plan : K.lookup f_is_plan = some ⟨oc_is_plan, od_is_plan, .func (PySem.W.fnOf "is_plan" "is_plan" (defArgs s_is_plan) (defBody s_is_plan) (defScope s_is_plan) .none kV_is_plan dc_is_plan pm_is_plan an_is_plan cd_is_plan ct_is_plan), sl_is_plan⟩)
    (c_is_plan : PySem.W.codeIn K cd_is_plan "is_plan" = true) (k_is_plan : PySem.W.keepIn K (.ref f_is_plan) = true)
    {oc_check_plan kV_check_plan dc_check_plan pm_check_plan cd_check_plan ct_check_plan : Value} {od_check_plan an_check_plan : Option Addr} {sl_check_plan : Array (Option Value)}
    (a_check_plan : PySem.W.nsIn K mainGlobals "check_plan" = some (some (.ref f_check_plan)))
    (l_check_plan : K.lookup f_check_plan = some ⟨oc_check_plan, od_check_plan, .func (PySem.W.fnOf "check_plan" "check_plan" (defArgs s_check_plan) (defBody s_check_plan) (defScope s_check_plan) .none kV_check_plan dc_check_plan pm_check_plan an_check_plan cd_check_plan ct_check_plan), sl_check_plan⟩)
    (c_check_plan : PySem.W.codeIn K cd_check_plan "check_plan" = true) (k_check_plan : PySem.W.keepIn K (.ref f_check_plan) = true)
    {oc_is_fenced kV_is_fenced dc_is_fenced pm_is_fenced cd_is_fenced ct_is_fenced : Value} {od_is_fenced an_is_fenced : Option Addr} {sl_is_fenced : Array (Option Value)}
    (a_is_fenced : PySem.W.nsIn K mainGlobals "is_fenced" = some (some (.ref f_is_fenced)))
    (l_is_fenced : K.lookup f_is_fenced = some ⟨oc_is_fenced, od_is_fenced, .func (PySem.W.fnOf "is_fenced" "is_fenced" (defArgs s_is_fenced) (defBody s_is_fenced) (defScope s_is_fenced) .none kV_is_fenced dc_is_fenced pm_is_fenced an_is_fenced cd_is_fenced ct_is_fenced), sl_is_fenced⟩)
    (c_is_fenced : PySem.W.codeIn K cd_is_fenced "is_fenced" = true) (k_is_fenced : PySem.W.keepIn K (.ref f_is_fenced) = true)
    {oc_is_fenced_part kV_is_fenced_part dc_is_fenced_part pm_is_fenced_part cd_is_fenced_part ct_is_fenced_part : Value} {od_is_fenced_part an_is_fenced_part : Option Addr} {sl_is_fenced_part : Array (Option Value)}
    (a_is_fenced_part : PySem.W.nsIn K mainGlobals "is_fenced_part" = some (some (.ref f_is_fenced_part)))
    (l_is_fenced_part : K.lookup f_is_fenced_part = some ⟨oc_is_fenced_part, od_is_fenced_part, .func (PySem.W.fnOf "is_fenced_part" "is_fenced_part" (defArgs s_is_fenced_part) (defBody s_is_fenced_part) (defScope s_is_fenced_part) .none kV_is_fenced_part dc_is_fenced_part pm_is_fenced_part an_is_fenced_part cd_is_fenced_part ct_is_fenced_part), sl_is_fenced_part⟩)
    (c_is_fenced_part : PySem.W.codeIn K cd_is_fenced_part "is_fenced_part" = true) (k_is_fenced_part : PySem.W.keepIn K (.ref f_is_fenced_part) = true)
    {oc_words_ahead kV_words_ahead dc_words_ahead pm_words_ahead cd_words_ahead ct_words_ahead : Value} {od_words_ahead an_words_ahead : Option Addr} {sl_words_ahead : Array (Option Value)}
    (a_words_ahead : PySem.W.nsIn K mainGlobals "words_ahead" = some (some (.ref f_words_ahead)))
    (l_words_ahead : K.lookup f_words_ahead = some ⟨oc_words_ahead, od_words_ahead, .func (PySem.W.fnOf "words_ahead" "words_ahead" (defArgs s_words_ahead) (defBody s_words_ahead) (defScope s_words_ahead) .none kV_words_ahead dc_words_ahead pm_words_ahead an_words_ahead cd_words_ahead ct_words_ahead), sl_words_ahead⟩)
    (c_words_ahead : PySem.W.codeIn K cd_words_ahead "words_ahead" = true) (k_words_ahead : PySem.W.keepIn K (.ref f_words_ahead) = true)
    {oc_law_draw kV_law_draw dc_law_draw pm_law_draw cd_law_draw ct_law_draw : Value} {od_law_draw an_law_draw : Option Addr} {sl_law_draw : Array (Option Value)}
    (a_law_draw : PySem.W.nsIn K mainGlobals "_law_draw" = some (some (.ref f_law_draw)))
    (l_law_draw : K.lookup f_law_draw = some ⟨oc_law_draw, od_law_draw, .func (PySem.W.fnOf "_law_draw" "_law_draw" (defArgs s_law_draw) (defBody s_law_draw) (defScope s_law_draw) .none kV_law_draw dc_law_draw pm_law_draw an_law_draw cd_law_draw ct_law_draw), sl_law_draw⟩)
    (c_law_draw : PySem.W.codeIn K cd_law_draw "_law_draw" = true) (k_law_draw : PySem.W.keepIn K (.ref f_law_draw) = true)
    {oc_law_pot kV_law_pot dc_law_pot pm_law_pot cd_law_pot ct_law_pot : Value} {od_law_pot an_law_pot : Option Addr} {sl_law_pot : Array (Option Value)}
    (a_law_pot : PySem.W.nsIn K mainGlobals "_law_pot" = some (some (.ref f_law_pot)))
    (l_law_pot : K.lookup f_law_pot = some ⟨oc_law_pot, od_law_pot, .func (PySem.W.fnOf "_law_pot" "_law_pot" (defArgs s_law_pot) (defBody s_law_pot) (defScope s_law_pot) .none kV_law_pot dc_law_pot pm_law_pot an_law_pot cd_law_pot ct_law_pot), sl_law_pot⟩)
    (c_law_pot : PySem.W.codeIn K cd_law_pot "_law_pot" = true) (k_law_pot : PySem.W.keepIn K (.ref f_law_pot) = true)
    {oc_law_stretch_ok kV_law_stretch_ok dc_law_stretch_ok pm_law_stretch_ok cd_law_stretch_ok ct_law_stretch_ok : Value} {od_law_stretch_ok an_law_stretch_ok : Option Addr} {sl_law_stretch_ok : Array (Option Value)}
    (a_law_stretch_ok : PySem.W.nsIn K mainGlobals "_law_stretch_ok" = some (some (.ref f_law_stretch_ok)))
    (l_law_stretch_ok : K.lookup f_law_stretch_ok = some ⟨oc_law_stretch_ok, od_law_stretch_ok, .func (PySem.W.fnOf "_law_stretch_ok" "_law_stretch_ok" (defArgs s_law_stretch_ok) (defBody s_law_stretch_ok) (defScope s_law_stretch_ok) .none kV_law_stretch_ok dc_law_stretch_ok pm_law_stretch_ok an_law_stretch_ok cd_law_stretch_ok ct_law_stretch_ok), sl_law_stretch_ok⟩)
    (c_law_stretch_ok : PySem.W.codeIn K cd_law_stretch_ok "_law_stretch_ok" = true) (k_law_stretch_ok : PySem.W.keepIn K (.ref f_law_stretch_ok) = true)
    {oc_law_fenced kV_law_fenced dc_law_fenced pm_law_fenced cd_law_fenced ct_law_fenced : Value} {od_law_fenced an_law_fenced : Option Addr} {sl_law_fenced : Array (Option Value)}
    (a_law_fenced : PySem.W.nsIn K mainGlobals "_law_fenced" = some (some (.ref f_law_fenced)))
    (l_law_fenced : K.lookup f_law_fenced = some ⟨oc_law_fenced, od_law_fenced, .func (PySem.W.fnOf "_law_fenced" "_law_fenced" (defArgs s_law_fenced) (defBody s_law_fenced) (defScope s_law_fenced) .none kV_law_fenced dc_law_fenced pm_law_fenced an_law_fenced cd_law_fenced ct_law_fenced), sl_law_fenced⟩)
    (c_law_fenced : PySem.W.codeIn K cd_law_fenced "_law_fenced" = true) (k_law_fenced : PySem.W.keepIn K (.ref f_law_fenced) = true)
    {oc_law_drawn_plan kV_law_drawn_plan dc_law_drawn_plan pm_law_drawn_plan cd_law_drawn_plan ct_law_drawn_plan : Value} {od_law_drawn_plan an_law_drawn_plan : Option Addr} {sl_law_drawn_plan : Array (Option Value)}
    (a_law_drawn_plan : PySem.W.nsIn K mainGlobals "_law_drawn_plan" = some (some (.ref f_law_drawn_plan)))
    (l_law_drawn_plan : K.lookup f_law_drawn_plan = some ⟨oc_law_drawn_plan, od_law_drawn_plan, .func (PySem.W.fnOf "_law_drawn_plan" "_law_drawn_plan" (defArgs s_law_drawn_plan) (defBody s_law_drawn_plan) (defScope s_law_drawn_plan) .none kV_law_drawn_plan dc_law_drawn_plan pm_law_drawn_plan an_law_drawn_plan cd_law_drawn_plan ct_law_drawn_plan), sl_law_drawn_plan⟩)
    (c_law_drawn_plan : PySem.W.codeIn K cd_law_drawn_plan "_law_drawn_plan" = true) (k_law_drawn_plan : PySem.W.keepIn K (.ref f_law_drawn_plan) = true)
    {oc_law_refused kV_law_refused dc_law_refused pm_law_refused cd_law_refused ct_law_refused : Value} {od_law_refused an_law_refused : Option Addr} {sl_law_refused : Array (Option Value)}
    (a_law_refused : PySem.W.nsIn K mainGlobals "_law_refused" = some (some (.ref f_law_refused)))
    (l_law_refused : K.lookup f_law_refused = some ⟨oc_law_refused, od_law_refused, .func (PySem.W.fnOf "_law_refused" "_law_refused" (defArgs s_law_refused) (defBody s_law_refused) (defScope s_law_refused) .none kV_law_refused dc_law_refused pm_law_refused an_law_refused cd_law_refused ct_law_refused), sl_law_refused⟩)
    (c_law_refused : PySem.W.codeIn K cd_law_refused "_law_refused" = true) (k_law_refused : PySem.W.keepIn K (.ref f_law_refused) = true)
    {f_law : Addr}
    {oc_law kV_law dc_law pm_law cd_law ct_law : Value} {od_law an_law : Option Addr} {sl_law : Array (Option Value)}
    (a_law : PySem.W.nsIn K mainGlobals "law" = some (some (.ref f_law)))
    (l_law : K.lookup f_law = some ⟨oc_law, od_law, .func (PySem.W.fnOf "law" "law" (defArgs s_law) (defBody s_law) (defScope s_law) .none kV_law dc_law pm_law an_law cd_law ct_law), sl_law⟩)
    (c_law : PySem.W.codeIn K cd_law "law" = true) (k_law : PySem.W.keepIn K (.ref f_law) = true)
    (z_ValueError : PySem.W.nsIn K mainGlobals "ValueError" = some none)
    (z_abs : PySem.W.nsIn K mainGlobals "abs" = some none)
    (z_all : PySem.W.nsIn K mainGlobals "all" = some none)
    (z_bool : PySem.W.nsIn K mainGlobals "bool" = some none)
    (z_enumerate : PySem.W.nsIn K mainGlobals "enumerate" = some none)
    (z_int : PySem.W.nsIn K mainGlobals "int" = some none)
    (z_isinstance : PySem.W.nsIn K mainGlobals "isinstance" = some none)
    (z_len : PySem.W.nsIn K mainGlobals "len" = some none)
    (z_list : PySem.W.nsIn K mainGlobals "list" = some none)
    (z_min : PySem.W.nsIn K mainGlobals "min" = some none)
    (z_range : PySem.W.nsIn K mainGlobals "range" = some none)
    (z_str : PySem.W.nsIn K mainGlobals "str" = some none)
    (z_tuple : PySem.W.nsIn K mainGlobals "tuple" = some none)
    (z_zip : PySem.W.nsIn K mainGlobals "zip" = some none)
    {ns_WORDS : Nat} {sl_WORDS : Array (Option Value)} {t0_WORDS : Tok} {t1_WORDS : Tok} {t2_WORDS : Tok} {t3_WORDS : Tok} {t4_WORDS : Tok} {t5_WORDS : Tok} {t6_WORDS : Tok} {t7_WORDS : Tok} {t8_WORDS : Tok}
    (a_WORDS : PySem.W.nsIn K mainGlobals "WORDS" = some (some (.ref c_WORDS)))
    (l_WORDS : K.lookup c_WORDS = some ⟨.type "tuple", none, .seq #[.str "show" t0_WORDS, .str "tell" t1_WORDS, .str "agree" t2_WORDS, .str "close" t3_WORDS, .str "clear" t4_WORDS, .str "drain" t5_WORDS, .str "copy" t6_WORDS, .str "open" t7_WORDS, .str "drop" t8_WORDS] ns_WORDS, sl_WORDS⟩)
    {t_MOST_WORDS : Tok} (a_MOST_WORDS : PySem.W.nsIn K mainGlobals "MOST_WORDS" = some (some (.int 15 t_MOST_WORDS)))
    {t_MOST_SHOWS : Tok} (a_MOST_SHOWS : PySem.W.nsIn K mainGlobals "MOST_SHOWS" = some (some (.int 2 t_MOST_SHOWS)))
    (ag_LaneError : PySem.W.nsIn K mainGlobals "LaneError" = some (some (.ref C_LaneError)))
    (ax_LaneError : PySem.W.excIn K C_LaneError [.type "ValueError", .type "Exception", .type "BaseException", .type "object"] "ValueError.__new__" = true)
    (ak_LaneError : PySem.W.keepIn K (.ref C_LaneError) = true) (ap_LaneError : PySem.W.subIn K (.ref C_LaneError) (.type "BaseException") = some true) (at_LaneError : PySem.W.typeIn K (.ref C_LaneError) = some (.type "type")) (ai_LaneError : PySem.W.isClsIn K C_LaneError = true)
    (ag_BadCase : PySem.W.nsIn K mainGlobals "BadCase" = some (some (.ref C_BadCase)))
    (ax_BadCase : PySem.W.excIn K C_BadCase [.type "ValueError", .type "Exception", .type "BaseException", .type "object"] "ValueError.__new__" = true)
    (ak_BadCase : PySem.W.keepIn K (.ref C_BadCase) = true) (ap_BadCase : PySem.W.subIn K (.ref C_BadCase) (.type "BaseException") = some true) (at_BadCase : PySem.W.typeIn K (.ref C_BadCase) = some (.type "type")) (ai_BadCase : PySem.W.isClsIn K C_BadCase = true)
    (q_BadCase_LaneError : PySem.W.subIn K (.ref C_BadCase) (.ref C_LaneError) = some true)
    (q_BadCase_BadCase : PySem.W.subIn K (.ref C_BadCase) (.ref C_BadCase) = some true)
    (hn : PySem.W.specialIn K (.builtin "object.__class__") "__get__" = some (some (.builtin "getset_descriptor.__get__"))) (ht : PySem.W.takesIn K (.builtin "object.__class__") = some true)
    (e1_BadCase : PySem.W.findIn K (.ref C_BadCase) "__getattribute__" = some (some (.builtin "BaseException.__getattribute__"))) (e2_BadCase : PySem.W.findIn K (.ref C_BadCase) "__getattr__" = some none) (e3_BadCase : PySem.W.hasDictIn K C_BadCase = true)
    (e4_BadCase : PySem.W.findIn K (.ref C_BadCase) "__class__" = some (some (.builtin "object.__class__"))) (e5_BadCase : PySem.W.mroIn K C_BadCase (.type "object") = some true) (v_BadCase : PySem.W.subIn K (.ref C_BadCase) (.type "ValueError") = some true) :
    ∃ fd : FuncData, (∀ (s : Shared) (v : Value), BindsTo s fd ⟨[v], []⟩ [("_law_script", v)]) ∧ ∀ base : Heap, K.In base → base.Ns mainGlobals mg → FnOk P w K mg base CX0 6 fa fd ["_law_script"] (spLaw K) := by
  have e := hfa.symm.trans (PySem.W.mg_of X G a_law)
  cases e
  have F_is_word := fun_mk (st := s_is_word) l_is_word c_is_word k_is_word
  have b_is_word := F_is_word.binds (ps := ["thing", "words"]) fun _ _ _ _ _ _ us hl => match us, hl with | [_, _], _ => rfl
  have F_is_row := fun_mk (st := s_is_row) l_is_row c_is_row k_is_row
  have b_is_row := F_is_row.binds (ps := ["thing", "low", "high"]) fun _ _ _ _ _ _ us hl => match us, hl with | [_, _, _], _ => rfl
  have F_is_plan := fun_mk (st := s_is_plan) l_is_plan c_is_plan k_is_plan
  have b_is_plan := F_is_plan.binds (ps := ["thing"]) fun _ _ _ _ _ _ us hl => match us, hl with | [_], _ => rfl
  have F_check_plan := fun_mk (st := s_check_plan) l_check_plan c_check_plan k_check_plan
  have b_check_plan := F_check_plan.binds (ps := ["plan"]) fun _ _ _ _ _ _ us hl => match us, hl with | [_], _ => rfl
  have F_is_fenced := fun_mk (st := s_is_fenced) l_is_fenced c_is_fenced k_is_fenced
  have b_is_fenced := F_is_fenced.binds (ps := ["plan"]) fun _ _ _ _ _ _ us hl => match us, hl with | [_], _ => rfl
  have F_is_fenced_part := fun_mk (st := s_is_fenced_part) l_is_fenced_part c_is_fenced_part k_is_fenced_part
  have b_is_fenced_part := F_is_fenced_part.binds (ps := ["words"]) fun _ _ _ _ _ _ us hl => match us, hl with | [_], _ => rfl
  have F_words_ahead := fun_mk (st := s_words_ahead) l_words_ahead c_words_ahead k_words_ahead
  have b_words_ahead := F_words_ahead.binds (ps := ["words", "others"]) fun _ _ _ _ _ _ us hl => match us, hl with | [_, _], _ => rfl
  have F_law_draw := fun_mk (st := s_law_draw) l_law_draw c_law_draw k_law_draw
  have b_law_draw := F_law_draw.binds (ps := ["_law_pot_here", "_law_limit"]) fun _ _ _ _ _ _ us hl => match us, hl with | [_, _], _ => rfl
  have F_law_pot := fun_mk (st := s_law_pot) l_law_pot c_law_pot k_law_pot
  have b_law_pot := F_law_pot.binds (ps := ["_law_script"]) fun _ _ _ _ _ _ us hl => match us, hl with | [_], _ => rfl
  have F_law_stretch_ok := fun_mk (st := s_law_stretch_ok) l_law_stretch_ok c_law_stretch_ok k_law_stretch_ok
  have b_law_stretch_ok := F_law_stretch_ok.binds (ps := ["_law_words"]) fun _ _ _ _ _ _ us hl => match us, hl with | [_], _ => rfl
  have F_law_fenced := fun_mk (st := s_law_fenced) l_law_fenced c_law_fenced k_law_fenced
  have b_law_fenced := F_law_fenced.binds (ps := ["_law_plan"]) fun _ _ _ _ _ _ us hl => match us, hl with | [_], _ => rfl
  have F_law_drawn_plan := fun_mk (st := s_law_drawn_plan) l_law_drawn_plan c_law_drawn_plan k_law_drawn_plan
  have b_law_drawn_plan := F_law_drawn_plan.binds (ps := ["_law_pot_here"]) fun _ _ _ _ _ _ us hl => match us, hl with | [_], _ => rfl
  have F_law_refused := fun_mk (st := s_law_refused) l_law_refused c_law_refused k_law_refused
  have b_law_refused := F_law_refused.binds (ps := ["_law_thing"]) fun _ _ _ _ _ _ us hl => match us, hl with | [_], _ => rfl
  have F_law := fun_mk (st := s_law) l_law c_law k_law
  have b_law := F_law.binds (ps := ["_law_script"]) fun _ _ _ _ _ _ us hl => match us, hl with | [_], _ => rfl
  exact ⟨PySem.W.fnOf "law" "law" (defArgs s_law) (defBody s_law) (defScope s_law) .none kV_law dc_law pm_law an_law cd_law ct_law, fun s v => .of_eq rfl, fun base _ _ => ok_lawF (P := P) (w := w) (mg := mg) (base := base) ({ a_is_word := _, d_is_word := _, F_is_word := F_is_word, g_is_word := PySem.W.mg_of X G a_is_word, b_is_word := b_is_word, a_is_row := _, d_is_row := _, F_is_row := F_is_row, g_is_row := PySem.W.mg_of X G a_is_row, b_is_row := b_is_row, a_is_plan := _, d_is_plan := _, F_is_plan := F_is_plan, g_is_plan := PySem.W.mg_of X G a_is_plan, b_is_plan := b_is_plan, a_check_plan := _, d_check_plan := _, F_check_plan := F_check_plan, g_check_plan := PySem.W.mg_of X G a_check_plan, b_check_plan := b_check_plan, a_is_fenced := _, d_is_fenced := _, F_is_fenced := F_is_fenced, g_is_fenced := PySem.W.mg_of X G a_is_fenced, b_is_fenced := b_is_fenced, a_is_fenced_part := _, d_is_fenced_part := _, F_is_fenced_part := F_is_fenced_part, g_is_fenced_part := PySem.W.mg_of X G a_is_fenced_part, b_is_fenced_part := b_is_fenced_part, a_words_ahead := _, d_words_ahead := _, F_words_ahead := F_words_ahead, g_words_ahead := PySem.W.mg_of X G a_words_ahead, b_words_ahead := b_words_ahead, a_law_draw := _, d_law_draw := _, F_law_draw := F_law_draw, g_law_draw := PySem.W.mg_of X G a_law_draw, b_law_draw := b_law_draw, a_law_pot := _, d_law_pot := _, F_law_pot := F_law_pot, g_law_pot := PySem.W.mg_of X G a_law_pot, b_law_pot := b_law_pot, a_law_stretch_ok := _, d_law_stretch_ok := _, F_law_stretch_ok := F_law_stretch_ok, g_law_stretch_ok := PySem.W.mg_of X G a_law_stretch_ok, b_law_stretch_ok := b_law_stretch_ok, a_law_fenced := _, d_law_fenced := _, F_law_fenced := F_law_fenced, g_law_fenced := PySem.W.mg_of X G a_law_fenced, b_law_fenced := b_law_fenced, a_law_drawn_plan := _, d_law_drawn_plan := _, F_law_drawn_plan := F_law_drawn_plan, g_law_drawn_plan := PySem.W.mg_of X G a_law_drawn_plan, b_law_drawn_plan := b_law_drawn_plan, a_law_refused := _, d_law_refused := _, F_law_refused := F_law_refused, g_law_refused := PySem.W.mg_of X G a_law_refused, b_law_refused := b_law_refused, a_law := _, d_law := _, F_law := F_law, g_law := PySem.W.mg_of X G a_law, b_law := b_law, z_ValueError := PySem.W.mg_none_of X G z_ValueError, z_abs := PySem.W.mg_none_of X G z_abs, z_all := PySem.W.mg_none_of X G z_all, z_bool := PySem.W.mg_none_of X G z_bool, z_enumerate := PySem.W.mg_none_of X G z_enumerate, z_int := PySem.W.mg_none_of X G z_int, z_isinstance := PySem.W.mg_none_of X G z_isinstance, z_len := PySem.W.mg_none_of X G z_len, z_list := PySem.W.mg_none_of X G z_list, z_min := PySem.W.mg_none_of X G z_min, z_range := PySem.W.mg_none_of X G z_range, z_str := PySem.W.mg_none_of X G z_str, z_tuple := PySem.W.mg_none_of X G z_tuple, z_zip := PySem.W.mg_none_of X G z_zip, c_WORDS := _, g_WORDS := PySem.W.mg_of X G a_WORDS, r_WORDS := rfl, q_WORDS := ⟨_, _, _, l_WORDS, rfl, rfl, rfl, by show 9 ≤ sizeLine; decide, .cons ⟨_, rfl⟩ (.cons ⟨_, rfl⟩ (.cons ⟨_, rfl⟩ (.cons ⟨_, rfl⟩ (.cons ⟨_, rfl⟩ (.cons ⟨_, rfl⟩ (.cons ⟨_, rfl⟩ (.cons ⟨_, rfl⟩ (.cons ⟨_, rfl⟩ (.nil)))))))))⟩, u_MOST_WORDS := _, g_MOST_WORDS := PySem.W.mg_of X G a_MOST_WORDS, r_MOST_WORDS := ⟨_, rfl⟩, u_MOST_SHOWS := _, g_MOST_SHOWS := PySem.W.mg_of X G a_MOST_SHOWS, r_MOST_SHOWS := ⟨_, rfl⟩, C_LaneError := _, g_LaneError := PySem.W.mg_of X G ag_LaneError, x_LaneError := ax_LaneError, k_LaneError := ak_LaneError, p_LaneError := ap_LaneError, t_LaneError := at_LaneError, i_LaneError := ai_LaneError, C_BadCase := _, g_BadCase := PySem.W.mg_of X G ag_BadCase, x_BadCase := ax_BadCase, k_BadCase := ak_BadCase, p_BadCase := ap_BadCase, t_BadCase := at_BadCase, i_BadCase := ai_BadCase, q_BadCase_LaneError := q_BadCase_LaneError, q_BadCase_BadCase := q_BadCase_BadCase, e_BadCase := ⟨e1_BadCase, e2_BadCase, ap_BadCase, e3_BadCase, e4_BadCase, hn, ht, e5_BadCase⟩, v_BadCase := v_BadCase } : Txt K mg)⟩
end K48
open PySem PySem.W PyProof.Rows
set_option maxRecDepth 100000 in
set_option maxHeartbeats 0 in
theorem PySem.Challenge.cw_lanescounted_k48_fences_read_holds : PySem.Challenge.rw_lanescounted_k48_fences_read.Holds := by
  w_on; o_law; k_head; (case hw => w_witness2)
  k_fill
  refine L2.walk_ofB (l := PySem.Challenge.rw_lanescounted_k48_fences_read) (n := 63) (k := 6) (x := "_law_script") (CX := fun w => L2.CX0) (sp := fun w => K48.spLaw _) rfl (by decide) rfl ⟨rfl, by decide, by decide⟩ (fun w h Y => PySem.W.kIn_of Y) ?F (fun _ _ a ns hl hb _ hS => ⟨a, ns, rfl, hS, hl, hb, fun _ => rfl⟩) (fun _ _ _ _ _ h => h)
  case F =>
    intro w mg fa h KX G hmg
    refine' K48.all_mk KX G hmg ?a_is_word ?l_is_word ?c_is_word ?k_is_word ?a_is_row ?l_is_row ?c_is_row ?k_is_row ?a_is_plan ?l_is_plan ?c_is_plan ?k_is_plan ?a_check_plan ?l_check_plan ?c_check_plan ?k_check_plan ?a_is_fenced ?l_is_fenced ?c_is_fenced ?k_is_fenced ?a_is_fenced_part ?l_is_fenced_part ?c_is_fenced_part ?k_is_fenced_part ?a_words_ahead ?l_words_ahead ?c_words_ahead ?k_words_ahead ?a_law_draw ?l_law_draw ?c_law_draw ?k_law_draw ?a_law_pot ?l_law_pot ?c_law_pot ?k_law_pot ?a_law_stretch_ok ?l_law_stretch_ok ?c_law_stretch_ok ?k_law_stretch_ok ?a_law_fenced ?l_law_fenced ?c_law_fenced ?k_law_fenced ?a_law_drawn_plan ?l_law_drawn_plan ?c_law_drawn_plan ?k_law_drawn_plan ?a_law_refused ?l_law_refused ?c_law_refused ?k_law_refused ?a_law ?l_law ?c_law ?k_law ?z_ValueError ?z_abs ?z_all ?z_bool ?z_enumerate ?z_int ?z_isinstance ?z_len ?z_list ?z_min ?z_range ?z_str ?z_tuple ?z_zip ?a_WORDS ?l_WORDS ?a_MOST_WORDS ?a_MOST_SHOWS ?ag_LaneError ?ax_LaneError ?ak_LaneError ?ap_LaneError ?at_LaneError ?ai_LaneError ?ag_BadCase ?ax_BadCase ?ak_BadCase ?ap_BadCase ?at_BadCase ?ai_BadCase ?q_BadCase_LaneError ?q_BadCase_BadCase ?hn ?ht ?e1_BadCase ?e2_BadCase ?e3_BadCase ?e4_BadCase ?e5_BadCase ?v_BadCase
    (case a_is_word => k_is)
    (case l_is_word => k_is)
    (case c_is_word => k_is)
    (case k_is_word => k_is)
    (case a_is_row => k_is)
    (case l_is_row => k_is)
    (case c_is_row => k_is)
    (case k_is_row => k_is)
    (case a_is_plan => k_is)
    (case l_is_plan => k_is)
    (case c_is_plan => k_is)
    (case k_is_plan => k_is)
    (case a_check_plan => k_is)
    (case l_check_plan => k_is)
    (case c_check_plan => k_is)
    (case k_check_plan => k_is)
    (case a_is_fenced => k_is)
    (case l_is_fenced => k_is)
    (case c_is_fenced => k_is)
    (case k_is_fenced => k_is)
    (case a_is_fenced_part => k_is)
    (case l_is_fenced_part => k_is)
    (case c_is_fenced_part => k_is)
    (case k_is_fenced_part => k_is)
    (case a_words_ahead => k_is)
    (case l_words_ahead => k_is)
    (case c_words_ahead => k_is)
    (case k_words_ahead => k_is)
    (case a_law_draw => k_is)
    (case l_law_draw => k_is)
    (case c_law_draw => k_is)
    (case k_law_draw => k_is)
    (case a_law_pot => k_is)
    (case l_law_pot => k_is)
    (case c_law_pot => k_is)
    (case k_law_pot => k_is)
    (case a_law_stretch_ok => k_is)
    (case l_law_stretch_ok => k_is)
    (case c_law_stretch_ok => k_is)
    (case k_law_stretch_ok => k_is)
    (case a_law_fenced => k_is)
    (case l_law_fenced => k_is)
    (case c_law_fenced => k_is)
    (case k_law_fenced => k_is)
    (case a_law_drawn_plan => k_is)
    (case l_law_drawn_plan => k_is)
    (case c_law_drawn_plan => k_is)
    (case k_law_drawn_plan => k_is)
    (case a_law_refused => k_is)
    (case l_law_refused => k_is)
    (case c_law_refused => k_is)
    (case k_law_refused => k_is)
    (case a_law => k_is)
    (case l_law => k_is)
    (case c_law => k_is)
    (case k_law => k_is)
    (case z_ValueError => k_is)
    (case z_abs => k_is)
    (case z_all => k_is)
    (case z_bool => k_is)
    (case z_enumerate => k_is)
    (case z_int => k_is)
    (case z_isinstance => k_is)
    (case z_len => k_is)
    (case z_list => k_is)
    (case z_min => k_is)
    (case z_range => k_is)
    (case z_str => k_is)
    (case z_tuple => k_is)
    (case z_zip => k_is)
    (case a_WORDS => k_is)
    (case l_WORDS => k_is)
    (case a_MOST_WORDS => k_is)
    (case a_MOST_SHOWS => k_is)
    (case ag_LaneError => k_is)
    (case ax_LaneError => k_exc)
    (case ak_LaneError => k_is)
    (case ap_LaneError => k_is)
    (case at_LaneError => k_is)
    (case ai_LaneError => k_is)
    (case ag_BadCase => k_is)
    (case ax_BadCase => k_exc)
    (case ak_BadCase => k_is)
    (case ap_BadCase => k_is)
    (case at_BadCase => k_is)
    (case ai_BadCase => k_is)
    (case q_BadCase_LaneError => k_is)
    (case q_BadCase_BadCase => k_is)
    (case hn => k_is)
    (case ht => k_is)
    (case e1_BadCase => k_is)
    (case e2_BadCase => k_is)
    (case e3_BadCase => k_is)
    (case e4_BadCase => k_is)
    (case e5_BadCase => k_is)
    (case v_BadCase => k_is)
