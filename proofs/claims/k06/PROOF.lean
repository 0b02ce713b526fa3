import PyProof.Rows.All
import Wide.All
import OpenK.AllK
import Wide.FinOn
import PySem.Challenge.RW_lanescounted_k06_whole_small_courses
import HandS.ForMost
import HandS.ForExc
import HandS.Wide
import HandS.IsInst
import HandS.EndBits
import HandS.Small
import HandS.FStr
import HandS.Gcd
import HandS.Strs
import HandS.SetFor
import HandS.ExcIs
import HandS.TryMany
import HandS.Style
import HandS.TupAny
import HandS.Zip
import HandS.TupMul
import HandS.Conv
import KE.DataFind
import KE.DataMinMax
import KE.SortData
import HandS.Deep
import KE.DataCmp
set_option Elab.async false
set_option linter.all false
set_option maxRecDepth 100000
set_option maxHeartbeats 4000000
namespace Lc
open PySem PySem.Spec PyProof.Rows L2
/-! ### great ints -/
/-- two factors of together less than a hundred million bits -/
def CMulX (i j : Int) : Prop := i.natAbs.log2 + j.natAbs.log2 < 100000000
theorem intBits_le (x : Int) : Builtin.Int.intBits x ≤ x.natAbs.log2 + 1 := by
  unfold Builtin.Int.intBits; split <;> omega
theorem CMulX.ok {i j : Int} (h : CMulX i j) : IntMulOk i j := by
  have a := intBits_le i
  have b := intBits_le j
  unfold CMulX at h
  intro z
  have y := (Bool.and_eq_true _ _ ▸ z).2
  unfold Builtin.Int.intTooBig at y
  have x := of_decide_eq_true y
  have l : bitsLine = 134217728 := by decide
  omega
theorem op_mulX {X : Cx} : OpR X (binaryOp .Mult) (rI CMulX fun i j => .int (i * j)) := opI fun _ _ _ _ _ _ _ hc q => mul_int q hc.ok
/-- few bits -/
def Few (i : Int) : Prop := i.natAbs.log2 ≤ 2000000
theorem few_of {i : Int} (h : i.natAbs < 2 ^ 240) : Few i := by
  have := PySem.Flt.log2_lt_of (n := i.natAbs) (k := 240) (by omega) h
  unfold Few; omega
theorem few_le {i : Int} {b : Int} (h0 : 0 ≤ i) (h : i ≤ b) (hb : b.natAbs < 2 ^ 240) : Few i := few_of (Nat.lt_of_le_of_lt (by omega) hb)
theorem mulX {i j : Int} (h : Few i) (h' : Few j) : CMulX i j := by unfold CMulX; unfold Few at h h'; omega
theorem divX {i j : Int} (h : 0 < j) (hb : j.natAbs < 2 ^ 240) : CDivW i j := wide_div (b := 240) h hb (by decide) (by decide)
theorem log2_mono {a b : Nat} (h : a ≤ b) : a.log2 ≤ b.log2 := by
  rcases Nat.eq_zero_or_pos a with h0 | h0
  · subst h0; simp
  · have hb : b ≠ 0 := by omega
    have h1 : 2 ^ a.log2 ≤ a := Nat.log2_self_le (by omega)
    exact (Nat.le_log2 hb).mpr (by omega)
theorem bits_log {z : Int} (h : Builtin.Int.intBits z ≤ 1048576) : z.natAbs.log2 ≤ 1048576 := by
  unfold Builtin.Int.intBits at h
  split at h
  · rename_i h0; simp_all
  · omega
/-! ### heaps -/
/-- all that was tracked, but for a, is as it was -/
def But (a : Addr) (H H' : Hp) : Prop := ∀ b o, b ≠ a → H b = some o → H' b = some o
theorem But.refl (a : Addr) (H : Hp) : But a H H := fun _ _ _ h => h
theorem But.trans {a : Addr} {H H1 H2 : Hp} (x : But a H H1) (y : But a H1 H2) : But a H H2 := fun b o n h => y b o n (x b o n h)
theorem But.same {a : Addr} {H H1 H2 : Hp} (x : But a H H1) (y : Same H1 H2) : But a H H2 := fun b o n h => y b o (x b o n h)
theorem Same.but {a : Addr} {H H1 : Hp} (y : Same H H1) : But a H H1 := fun b o _ h => y b o h
theorem But.new {a : Addr} {H H1 H2 : Hp} (y : Same H H1) (x : But a H1 H2) : But a H H2 := fun b o n h => x b o n (y b o h)
theorem same_upd {H : Hp} {p : Addr} {o : HO} (h : H p = none) : Same H (upd H p o) := fun b x e => by
  rw [upd_ne (ne_of_none e h)]
  exact e
theorem But.upd {a : Addr} {H H' : Hp} {o : HO} (x : But a H H') : But a H (upd H' a o) := fun b u n h => by
  rw [upd_ne n]
  exact x b u n h
/-! ### statements joined behind an if -/
theorem seq_cut {t u : TS} {D : Ends} {σ : L2.St} {H : Hp} (M : L2.St → Hp → Prop) (h2 : ∀ σ' H', M σ' H' → u D σ' H') (h1 : (∀ σ' H', M σ' H' → u D σ' H') → t { D with nx := u D } σ H) : tSeq t u D σ H := h1 h2
theorem if_cut {c : TT} {t1 t2 u : TS} {D : Ends} {σ : L2.St} {H : Hp} (M : L2.St → Hp → Prop) (h2 : ∀ σ' H', M σ' H' → u D σ' H') (h1 : (∀ σ' H', M σ' H' → u D σ' H') → tIfS c t1 t2 { D with nx := u D } σ H) : tSeq (tIfS c t1 t2) u D σ H := h1 h2
/-! ### the source of draws -/
structure Src (H : Hp) (a : Addr) (n : Nat) : Prop where
  ex : ∃ (l : Addr) (ns : List Int) (x y z : Int), H a = some (.lst [.ref l, .int x, .int y, .int z]) ∧ H l = some (.lst (ns.map V.int)) ∧ (∀ k ∈ ns, k.natAbs.log2 ≤ 1048576) ∧ ns.length ≤ 63 ∧
    0 ≤ x ∧ x.natAbs.log2 ≤ 1048576 ∧ 0 ≤ y ∧ y < 2147483647 ∧ 0 ≤ z ∧ z ≤ (n : Int)
def spDraw : Sp := fun vs H Q _ => ∃ (a : Addr) (n : Nat) (lim : Int), vs = [.ref a, .int lim] ∧ Src H a n ∧ n < 1000000 ∧ 1 ≤ lim ∧ lim ≤ 1000000000000 ∧
  ∀ d H', 0 ≤ d → d < lim → Src H' a (n + 1) → But a H H' → Q (.int d) H'
def spSource (K : PySem.W.Frag) : Sp := fun vs H Q _ => ∃ (a : Addr) (ns : List Int), vs = [.ref a] ∧ SqL K H a (ns.map V.int) ∧ ns.length ≤ 63 ∧ (∀ z ∈ ns, Builtin.Int.intBits z ≤ 1048576) ∧
  ∀ p H', H p = none → Src H' p 0 → Same H H' → Q (.ref p) H'
def spGreat : Sp := fun vs H Q _ => ∃ (a : Addr) (n : Nat) (lim : Int), vs = [.ref a, .int lim] ∧ Src H a n ∧ n + 5 < 1000000 ∧ 1 ≤ lim ∧ lim ≤ 10 ^ 60 ∧
  ∀ d H', 0 ≤ d → d < lim → Src H' a (n + 5) → But a H H' → Q (.int d) H'
/-- what is behind the first if of a draw -/
structure Mid (H0 : Hp) (a : Addr) (n : Nat) (H : Hp) : Prop where
  src : Src H a n
  but : But a H0 H
theorem src_ne {H : Hp} {a b : Addr} {n : Nat} (S : Src H a n) (h : H b = none) : b ≠ a := by
  obtain ⟨l, ns, x, y, z, h1, _⟩ := S.ex
  intro e; subst e; rw [h] at h1; cases h1
theorem Src.le {H : Hp} {a : Addr} {n m : Nat} (S : Src H a n) (h : n ≤ m) : Src H a m := by
  obtain ⟨l, ns, x, y, z, h1, h2, h3, h4, h5, h6, h7, h8, h9, h10⟩ := S.ex
  exact ⟨l, ns, x, y, z, h1, h2, h3, h4, h5, h6, h7, h8, h9, by omega⟩
theorem Src.same {H H' : Hp} {a : Addr} {n : Nat} (S : Src H a n) (k : Same H H') : Src H' a n := by
  obtain ⟨l, ns, x, y, z, h1, h2, h3⟩ := S.ex
  exact ⟨l, ns, x, y, z, k _ _ h1, k _ _ h2, h3⟩
theorem cut1 (l : List V) : cutV l (some 1) none = l.drop 1 := by
  have e1 : HT.sIx l.length 0 (some 1) = min 1 l.length := HT.sIx_nat l.length 0 1
  have e2 : HT.sIx l.length l.length none = l.length := HT.sIx_none ..
  show ((l.drop (HT.sIx l.length 0 (some 1))).take (HT.sIx l.length l.length none - HT.sIx l.length 0 (some 1))) = l.drop 1
  rw [e1, e2]
  match l with
  | [] => rfl
  | a :: r =>
    have e3 : min 1 (a :: r).length = 1 := Nat.min_eq_left (by simp)
    rw [e3]
    exact List.take_of_length_le (by simp)
theorem idiv_log {x j : Int} (h0 : 0 ≤ x) (hj : 1 ≤ j) {k : Nat} (h : x.natAbs.log2 ≤ k) : (x / j).natAbs.log2 ≤ k := by
  have h1 : 0 ≤ x / j := Int.ediv_nonneg h0 (by omega)
  have h2 : x / j ≤ x := Int.ediv_le_self j h0
  have h3 : (x / j).natAbs ≤ x.natAbs := by omega
  exact Nat.le_trans (log2_mono h3) h
def pw9 : Nat → Int
  | 0 => 1
  | n + 1 => pw9 n * 1000000000
theorem pw9_le {i : Nat} (h : i ≤ 5) : pw9 i ≤ 1000000000000000000000000000000000000000000000 := by
  match i, h with
  | 0, _ => decide
  | 1, _ => decide
  | 2, _ => decide
  | 3, _ => decide
  | 4, _ => decide
  | 5, _ => decide
theorem few_bits {k : Int} (h : k.natAbs.log2 ≤ 1048576) : Few k := by unfold Few; omega
theorem ends_true {Q : VK} {b : Bool} {H : Hp} (q : ∀ H', Q (.bl true) H') (h : b = true) : Q (.bl b) H := h ▸ q H
/-! ### rules with the written part by its name (within a comprehension) -/
theorem ixL {X : Cx} (K : PySem.W.Frag) (h : X.K = K := by rfl) : IxR X (rIxL K) := h ▸ ix_list
theorem ixT {X : Cx} (K : PySem.W.Frag) (h : X.K = K := by rfl) : IxR X (rIxT K) := h ▸ ix_tup
/-! ### what an object is -/
inductive Arg (K : PySem.W.Frag) (H : Hp) : V → String → Prop where
  | non : Arg K H .non "NoneType"
  | bl (b : Bool) : Arg K H (.bl b) "bool"
  | int (i : Int) : Arg K H (.int i) "int"
  | str (x : Str) : Arg K H (.str x) "str"
  | lst {a : Addr} {xs : List V} (e : H a = some (.lst xs)) : Arg K H (.ref a) "list"
  | tup {a : Addr} {xs : List V} (e : H a = some (.tup xs)) : Arg K H (.ref a) "tuple"
  | dK {a : Addr} {kvs : List (Key × V)} (e : H a = some (.dK kvs)) : Arg K H (.ref a) "dict"
  | ftup {a : Addr} {o : Obj} {xs : List V} (e : H a = some (.frz o (.tup xs))) : Arg K H (.ref a) "tuple"
def isI : V → Bool
  | .int _ => true | .bl _ => true | _ => false
def isB : V → Bool
  | .bl _ => true | _ => false
def isS : V → Bool
  | .str _ => true | _ => false
section
variable {K : PySem.W.Frag} {H : Hp} {x : V} {n : String}
theorem Arg.ty (h : Arg K H x n) : TyX K H x (.type n) := by
  cases h with
  | non => exact .base .non
  | bl b => exact .base (.bl b)
  | int i => exact .base (.int i)
  | str s => exact .base (.str s)
  | lst e => exact .base (.lst e)
  | tup e => exact .base (.tup e)
  | dK e => exact .base (.dK e)
  | ftup e => exact .fTuple e
theorem Arg.int? (h : Arg K H x n) : PySem.W.kitOne K (.type n) (.type "int") = some (isI x) := by
  cases h <;> first | exact kit_ty (r := true) (by decide +kernel) | exact kit_ty (r := false) (by decide +kernel)
theorem Arg.bool? (h : Arg K H x n) : PySem.W.kitOne K (.type n) (.type "bool") = some (isB x) := by
  cases h <;> first | exact kit_ty (r := true) (by decide +kernel) | exact kit_ty (r := false) (by decide +kernel)
theorem Arg.str? (h : Arg K H x n) : PySem.W.kitOne K (.type n) (.type "str") = some (isS x) := by
  cases h <;> first | exact kit_ty (r := true) (by decide +kernel) | exact kit_ty (r := false) (by decide +kernel)
end
/-- an integer from lo to hi, no bool -/
def wholeV (x : V) (lo hi : Int) : Bool := match x with
  | .int i => decide (lo ≤ i) && decide (i ≤ hi)
  | _ => false
def wordV (x : V) (ws : List Str) : Bool := match x with
  | .str s => decide (s ∈ ws)
  | _ => false
theorem inV_str (s : Str) (ws : List Str) : inV (.str s) (ws.map V.str) = decide (s ∈ ws) := by
  unfold inV
  induction ws with
  | nil => rfl
  | cons w r ih =>
    rw [List.map_cons, List.any_cons, ih]
    show ((w == s) || decide (s ∈ r)) = decide (s ∈ w :: r)
    by_cases e : w = s
    · subst e; simp
    · have e2 : (w == s) = false := beq_eq_false_iff_ne.mpr e
      have e3 : ¬ s = w := fun z => e z.symm
      rw [e2, Bool.false_or]
      simp [e3]
theorem all_flat_str (ws : List Str) : (ws.map V.str).all flatV = true := by
  induction ws with
  | nil => rfl
  | cons w r ih => rw [List.map_cons, List.all_cons, ih]; rfl
theorem atI_two {α : Type} {x y : α} {d : Int} (h0 : 0 ≤ d) (h1 : d < 2) : atI [x, y] d = some (if d = 0 then x else y) := by
  have h : d = 0 ∨ d = 1 := by omega
  rcases h with rfl | rfl <;> rfl
theorem atI_three {α : Type} {x y z : α} {d : Int} (h0 : 0 ≤ d) (h1 : d < 3) : atI [x, y, z] d = some (if d = 0 then x else if d = 1 then y else z) := by
  have h : d = 0 ∨ d = 1 ∨ d = 2 := by omega
  rcases h with rfl | rfl | rfl <;> rfl
def spWhole (K : PySem.W.Frag) : Sp := fun vs H Q _ => ∃ (x : V) (lo hi : Int) (n : String), vs = [x, .int lo, .int hi] ∧ Arg K H x n ∧ Q (.bl (wholeV x lo hi)) H
def spWord (K : PySem.W.Frag) : Sp := fun vs H Q _ => ∃ (x : V) (t : Addr) (ws : List Str) (n : String), vs = [x, .ref t] ∧ SqT K H t (ws.map V.str) ∧ Arg K H x n ∧ Q (.bl (wordV x ws)) H
def spIsInt (K : PySem.W.Frag) : Sp := fun vs H Q _ => ∃ (x : V) (n : String), vs = [x] ∧ Arg K H x n ∧ Q (.bl (isI x && !isB x)) H
/-- what a def hands back or raises, nothing written -/
def spRes (exc : String → Addr) (r : Except String V) (H : Hp) (Q : VK) (E : XK) : Prop := match r with
  | .ok v => Q v H
  | .error n => E (.ref (exc n)) none H
theorem ite_of {c : Prop} [Decidable c] {α : Type} {a b : α} (h : c) : (if c then a else b) = a := if_pos h
/-! ### tables: what its defs hand back or raise -/
def kindV (x : V) : Bool := wordV x ["rest", "ranges"]
def laneAt (k : V) (c m s : Int) : Int := if k = .str "rest" then m % c else m * c / s
def laneOf (k c m s : V) : Except String V :=
  if kindV k = false then .error "BadKind" else if wholeV c 1 (10 ^ 20) = false then .error "BadCount" else if wholeV m 0 (10 ^ 40) = false then .error "BadMark" else
  if wholeV s 1 (10 ^ 40) = false then .error "BadSize" else match c, m, s with
    | .int c, .int m, .int s => if s ≤ m then .error "BadMark" else .ok (.int (laneAt k c m s))
    | _, _, _ => .ok .non
def spChk (K : PySem.W.Frag) (exc : String → Addr) (good : V → Bool) (n : String) : Sp := fun vs H Q E => ∃ (x : V) (tn : String), vs = [x] ∧ Arg K H x tn ∧ spRes exc (if good x = false then .error n else .ok .non) H Q E
def spChkC (K : PySem.W.Frag) (exc : String → Addr) : Sp := fun vs H Q E => ∃ (x : V) (g : Int) (tn : String), vs = [x, .int g] ∧ (g = 10 ^ 20 ∨ g = 1000) ∧ Arg K H x tn ∧ spRes exc (if wholeV x 1 g = false then .error "BadCount" else .ok .non) H Q E
def spLaneAt : Sp := fun vs H Q _ => ∃ (k : Str) (c m s : Int), vs = [.str k, .int c, .int m, .int s] ∧ 1 ≤ c ∧ c ≤ 10 ^ 20 ∧ 0 ≤ m ∧ m < s ∧ s ≤ 10 ^ 40 ∧ Q (.int (laneAt (.str k) c m s)) H
def spLaneOf (K : PySem.W.Frag) (exc : String → Addr) : Sp := fun vs H Q E => ∃ (k c m s : V) (tk tc tm ts : String), vs = [k, c, m, s] ∧ Arg K H k tk ∧ Arg K H c tc ∧ Arg K H m tm ∧ Arg K H s ts ∧ spRes exc (laneOf k c m s) H Q E
theorem whole_int {x : V} {lo hi : Int} (h : wholeV x lo hi = true) : ∃ i, x = .int i ∧ lo ≤ i ∧ i ≤ hi := by
  cases x with
  | int i =>
    have h2 : (decide (lo ≤ i) && decide (i ≤ hi)) = true := h
    rw [Bool.and_eq_true] at h2
    exact ⟨i, rfl, of_decide_eq_true h2.1, of_decide_eq_true h2.2⟩
  | _ => exact nomatch h
theorem word_str {x : V} {ws : List Str} (h : wordV x ws = true) : ∃ s, x = .str s ∧ s ∈ ws := by
  cases x with
  | str s => exact ⟨s, rfl, of_decide_eq_true h⟩
  | _ => exact nomatch h
theorem whole_of {i lo hi : Int} (h : lo ≤ i) (h' : i ≤ hi) : wholeV (.int i) lo hi = true := by
  show (decide (lo ≤ i) && decide (i ≤ hi)) = true
  rw [decide_eq_true h, decide_eq_true h']; rfl
theorem fmt20 : (toString ((10 : Int) ^ 20) : Str).length = 21 := by decide +kernel
/-! ### lcm, and ranges of any ints -/
def rLcm : List V → Hp → VK → Prop := fun vs H Q => ∃ a b : Nat, vs = [.int (a : Int), .int (b : Int)] ∧ a < 10 ^ 40 ∧ b < 10 ^ 40 ∧ 0 < a ∧ Q (.int ((Nat.lcm a b : Nat) : Int)) H
theorem cr_lcm {X : Cx} : CallR X (.builtin "math.lcm") rLcm := by
  intro pins s σ H vs us Q I r h
  obtain ⟨a, b, rfl, ha, hb, h0, q⟩ := h
  obtain ⟨t, u, rfl⟩ := Vals.int2 r
  have la : (max 1 ((a : Int).natAbs)).log2 ≤ 199 := PySem.W.mg_log (Nat.lt_of_lt_of_le (by rw [Int.natAbs_natCast]; omega : max 1 ((a : Int).natAbs) < 10 ^ 40) (by decide))
  have lb : (max ((a : Int).natAbs) ((b : Int).natAbs)).log2 ≤ 199 := PySem.W.mg_log (Nat.lt_of_lt_of_le (by rw [Int.natAbs_natCast, Int.natAbs_natCast]; omega : max ((a : Int).natAbs) ((b : Int).natAbs) < 10 ^ 40) (by decide))
  have e : ((Nat.lcm 1 ((a : Int).natAbs)).lcm ((b : Int).natAbs) : Nat) = Nat.lcm a b := by rw [Int.natAbs_natCast, Int.natAbs_natCast, Nat.lcm_one_left]
  have ls : (((((Nat.lcm 1 ((a : Int).natAbs)).lcm ((b : Int).natAbs) : Nat)) : Int)).natAbs.log2 < bitsLine := by
    rw [e, Int.natAbs_natCast]
    have h1 : Nat.lcm a b ≤ a * b := by
      unfold Nat.lcm; exact Nat.div_le_self _ _
    have h2 : a * b ≤ 10 ^ 40 * 10 ^ 40 := Nat.mul_le_mul (Nat.le_of_lt ha) (Nat.le_of_lt hb)
    have h3 : (Nat.lcm a b).log2 ≤ 399 := PySem.W.mg_log (Nat.lt_of_le_of_lt (Nat.le_trans h1 h2) (by decide))
    exact Nat.lt_of_le_of_lt h3 (by decide)
  exact PySem.call_function_meets PySem.W.MGF.kind_lcm PySem.W.MGF.plain_lcm PySem.W.MGF.entry_lcm (PySem.W.MGF.args_lcm _ _) (PySem.W.mg_run_lcm _ t _ u (by omega) (by omega) ls).meets ⟨.int _, H, I.tok _, ⟨_, rfl⟩, (by rw [e]; exact q)⟩
theorem turn_long {P : Program} {w : World} {K : PySem.W.Frag} {tg : Expr} (c : Addr) (lo : Int) (n : Nat) : Turn P w K tg (Itr lo n) [c] c (fun i h => IsLongIter h c (lo + (i : Nat) * 1) ((n : Int) - (i : Nat)) 1) := by
  refine { mem := List.mem_singleton.mpr rfl, obj := ?o, keep := ?k, item := ?i, done := ?d, self := ?s }
  case o =>
    intro i h hc b hb
    cases List.mem_singleton.mp hb
    exact ⟨_, hc, fun v (z : Data.fields _ = Data.cell v) => nomatch z⟩
  case k => exact fun i h h' hc k => k c (List.mem_singleton.mpr rfl) _ hc
  case i =>
    rintro X rfl rfl rfl hh i pins s σ H E I hf hc hg
    have hq := hf c (List.mem_singleton.mpr rfl)
    obtain ⟨q0, q1, q2, q3, q4, q5⟩ := hq
    refine (Walks.longrange (prog := X.prog) (w := X.w) (I.ok.hd hh) c lo 1 n).item i s _ _ hg hc fun v h' tk hv hc' hk => ?_
    obtain ⟨t, rfl⟩ := hv
    have J : Inv X pins σ H { s with heap := h', toks := tk } := I.turned (fun b o hb e => hk b o (fun z => hb (List.mem_singleton.mp z)) e) q0 q1 q3 q4 q5
    exact ⟨_, rfl, go_of (s := { s with heap := h', toks := tk }) (n := "longrange_iterator") hc' rfl rfl (by decide) ⟨.int (lo + i), H, J, ⟨t, by rw [Int.mul_one]⟩, ⟨rfl, rfl⟩, hc', fun b hb => (hf b hb).1⟩⟩
  case d =>
    rintro X rfl rfl rfl hh i pins s σ H E I hf hc hg
    obtain ⟨q0, q1, q2, q3, q4, q5⟩ := hf c (List.mem_singleton.mpr rfl)
    have hni : n ≤ i := hg
    exact wpAny_pyNext_long_end (I.ok.hd hh) hc (by omega) fun h' k => ⟨rfl, I.turned (t' := s.toks) (fun b o hb e => k b o hb e) q0 q1 q3 q4 q5⟩
  case s => exact fun _ _ _ _ _ hc h => wpAny_pyIter_longiter hc h
theorem any_range {X : Cx} {tg : Expr} {pins : List (Addr × Obj)} {σ : L2.St} {H : Hp} {s : Shared} {R : It → Hp → Prop} {E : Value → Shared → Prop} {lo hi : Int} {t u v : Tok} {tk : Nat} (I : Inv X pins σ H s) (q : R (Itr lo (hi - lo).toNat) H) :
    wpAny (model X.prog X.w) X.A (pyIter (.ref s.heap.objs.size)) (PIE X pins σ tg R) E { s with heap := s.heap.push { cls := .type "range", data := .fields #[.int lo t, .int hi u, .int 1 v] }, toks := tk } := by
  have J : Inv X pins σ H { s with heap := s.heap.push { cls := .type "range", data := .fields #[.int lo t, .int hi u, .int 1 v] }, toks := tk } := I.kept fun b o e => Heap.get?_push_of_some _ e
  have ez : lo + ((0 : Nat) : Int) * 1 = lo := by omega
  have en : (((hi - lo).toNat : Nat) : Int) - ((0 : Nat) : Int) = Builtin.Range.rangeSize lo hi 1 := by
    rw [rangeSize_one]; split <;> omega
  cases hsm : Builtin.Range.small lo hi 1 with
  | true =>
    refine wpAny_pyIter_range (IsRange.new ..) hsm ?_
    refine ⟨_, [_], _, _, H, rfl, J.kept (t' := tk) fun b o e => Heap.get?_push_of_some _ e, turn_range _ lo (hi - lo).toNat, ?_, fun b hb => ?_, q⟩
    · show IsRangeIter _ _ (lo + ((0 : Nat) : Int) * 1) ((((hi - lo).toNat : Nat) : Int) - ((0 : Nat) : Int)) 1
      rw [ez, en]; exact Heap.get?_push_size _ rfl
    · cases List.mem_singleton.mp hb
      exact J.fpOk (Nat.le_refl _) (J.hok.fresh (Nat.le_refl _))
  | false =>
    refine wpAny_pyIter_longrange (IsRange.new ..) hsm ?_
    refine ⟨_, [_], _, _, H, rfl, J.kept (t' := tk) fun b o e => Heap.get?_push_of_some _ e, turn_long _ lo (hi - lo).toNat, ?_, fun b hb => ?_, q⟩
    · show IsLongIter _ _ (lo + ((0 : Nat) : Int) * 1) ((((hi - lo).toNat : Nat) : Int) - ((0 : Nat) : Int)) 1
      rw [ez, en]; exact Heap.get?_push_size _ rfl
    · cases List.mem_singleton.mp hb
      exact J.fpOk (Nat.le_refl _) (J.hok.fresh (Nat.le_refl _))
def iRngA (ta : TA) : TI := fun σ H R => ta σ H fun vs H1 => ∃ i j : Int, vs = [.int i, .int j] ∧ R (Itr i (j - i).toNat) H1
theorem pi_rangeA {X : Cx} {tg a b : Expr} {ta : TA} {p pos : Pos} (hg : Gl X "range") (hm : X.mg "range" = none) (ha : PA X [a, b] ta) (hs : starEach [a, b] X.env = [(false, eval a X.env), (false, eval b X.env)] := by rfl) (hs2 : starEach [b] X.env = [(false, eval b X.env)] := by rfl) :
    PI X tg (.Call (.Name "range" p) [a, b] [] pos) (iRngA ta) := by
  refine ⟨fun pins s σ H R I h => Call_ (ld_blt I hg hm boot_range (PyProof.Rows.callWith_type1 (thn (ha.run pos pins s σ H _ I h) fun us s1 hh => ?_) (by rw [hs, hs2]) (by rw [hs2]; rfl)))⟩
  obtain ⟨vs, H1, J, r1, i, j, e, q⟩ := hh
  subst e
  obtain ⟨t, t', rfl⟩ := Vals.int2 r1
  exact call_range_2 (any_range J q)
/-! ### marks that move -/
def lstart (l c s : Int) : Int := (l * s + c - 1) / c
def lcmI (a b : Int) : Int := ((Nat.lcm a.toNat b.toNat : Nat) : Int)
def keptRest (low high size : Int) : Int := size / lcmI low high * low + (if low < size % lcmI low high then low else size % lcmI low high)
def gapI (high low size : Int) (l : Int) : Int := if lstart (l + 1) high size - lstart l low size > 0 then lstart (l + 1) high size - lstart l low size else 0
def keptR (high low size : Int) : Nat → Int
  | 0 => 0
  | n + 1 => keptR high low size n + gapI high low size (n : Int)
inductive FirstR (low high size : Int) : V → Prop where
  | at (l : Int) (h1 : 1 ≤ l) (h2 : l ≤ low) (h3 : lstart l high size < lstart l low size) (h4 : ∀ j, 1 ≤ j → j < l → lstart j low size ≤ lstart j high size) : FirstR low high size (.int (lstart l high size))
  | no (h : ∀ j, 1 ≤ j → j ≤ low → lstart j low size ≤ lstart j high size) : FirstR low high size .non
def lowI (b a : Int) : Int := if a < b then a else b
def highI (b a : Int) : Int := if a > b then a else b
def countM (k : Str) (b a s : Int) : Int := if V.str k = .str "rest" then s - keptRest (lowI b a) (highI b a) s else s - keptR (highI b a) (lowI b a) s (lowI b a).toNat
def FirstM (k : Str) (b a s : Int) (r : V) : Prop := if V.str k = .str "ranges" then FirstR (lowI b a) (highI b a) s r else
  r = (if lowI b a < (if s < highI b a then s else highI b a) then .int (lowI b a) else .non)
def mostOf (k : V) : Int := if k = .str "rest" then 10 ^ 20 else 1000
def chkM (k b a s : V) : Option String :=
  if kindV k = false then some "BadKind" else if wholeV b 1 (mostOf k) = false then some "BadCount" else if wholeV a 1 (mostOf k) = false then some "BadCount" else if wholeV s 1 (10 ^ 40) = false then some "BadSize" else none
structure Mvd (ks : Str) (b a s : Int) : Prop where
  k : kindV (.str ks) = true
  b1 : 1 ≤ b
  b2 : b ≤ mostOf (.str ks)
  a1 : 1 ≤ a
  a2 : a ≤ mostOf (.str ks)
  s1 : 1 ≤ s
  s2 : s ≤ 10 ^ 40
theorem chkM_none {k b a s : V} (h : chkM k b a s = none) : ∃ ks bi ai si, k = .str ks ∧ b = .int bi ∧ a = .int ai ∧ s = .int si ∧ Mvd ks bi ai si := by
  unfold chkM at h
  cases e1 : kindV k with
  | false => rw [if_pos e1] at h; cases h
  | true =>
  rw [if_neg (by rw [e1]; decide)] at h
  cases e2 : wholeV b 1 (mostOf k) with
  | false => rw [if_pos e2] at h; cases h
  | true =>
  rw [if_neg (by rw [e2]; decide)] at h
  cases e3 : wholeV a 1 (mostOf k) with
  | false => rw [if_pos e3] at h; cases h
  | true =>
  rw [if_neg (by rw [e3]; decide)] at h
  cases e4 : wholeV s 1 (10 ^ 40) with
  | false => rw [if_pos e4] at h; cases h
  | true =>
  obtain ⟨bi, rfl, b1, b2⟩ := whole_int e2
  obtain ⟨ai, rfl, a1, a2⟩ := whole_int e3
  obtain ⟨si, rfl, s1, s2⟩ := whole_int e4
  obtain ⟨ks, rfl, _⟩ := word_str e1
  exact ⟨ks, bi, ai, si, rfl, rfl, rfl, rfl, e1, b1, b2, a1, a2, s1, s2⟩
theorem chkM_ok {ks : Str} {b a s : Int} (h : Mvd ks b a s) : chkM (.str ks) (.int b) (.int a) (.int s) = none := by
  unfold chkM
  rw [if_neg (by rw [h.k]; decide), if_neg (by rw [whole_of h.b1 h.b2]; decide), if_neg (by rw [whole_of h.a1 h.a2]; decide), if_neg (by rw [whole_of h.s1 h.s2]; decide)]
/-- one who asks: the error, or what comes of good ones -/
def spAskM (K : PySem.W.Frag) (exc : String → Addr) (G : Str → Int → Int → Int → V → Prop) : Sp := fun vs H Q E => ∃ (k b a s : V) (tk tb ta ts : String), vs = [k, b, a, s] ∧ Arg K H k tk ∧ Arg K H b tb ∧ Arg K H a ta ∧ Arg K H s ts ∧
  (∀ n, chkM k b a s = some n → E (.ref (exc n)) none H) ∧ (∀ ks bi ai si, k = .str ks → b = .int bi → a = .int ai → s = .int si → Mvd ks bi ai si → ∀ r, G ks bi ai si r → Q r H)
def spLstart : Sp := fun vs H Q _ => ∃ l c s : Int, vs = [.int l, .int c, .int s] ∧ 0 ≤ l ∧ l ≤ 2000 ∧ 1 ≤ c ∧ c ≤ 1000 ∧ 1 ≤ s ∧ s ≤ 10 ^ 40 ∧ Q (.int (lstart l c s)) H
def spKeptRest : Sp := fun vs H Q _ => ∃ l h s : Int, vs = [.int l, .int h, .int s] ∧ 1 ≤ l ∧ l ≤ 10 ^ 20 ∧ 1 ≤ h ∧ h ≤ 10 ^ 20 ∧ 1 ≤ s ∧ s ≤ 10 ^ 40 ∧ Q (.int (keptRest l h s)) H
def spKeptRanges : Sp := fun vs H Q _ => ∃ l h s : Int, vs = [.int l, .int h, .int s] ∧ 1 ≤ l ∧ l ≤ 1000 ∧ 1 ≤ h ∧ h ≤ 1000 ∧ 1 ≤ s ∧ s ≤ 10 ^ 40 ∧ Q (.int (keptR h l s l.toNat)) H
def spFirstRanges : Sp := fun vs H Q _ => ∃ l h s : Int, vs = [.int l, .int h, .int s] ∧ 1 ≤ l ∧ l ≤ 1000 ∧ 1 ≤ h ∧ h ≤ 1000 ∧ 1 ≤ s ∧ s ≤ 10 ^ 40 ∧ ∀ r, FirstR l h s r → Q r H
theorem lcmI_pos {a b : Int} (ha : 1 ≤ a) (hb : 1 ≤ b) : 1 ≤ lcmI a b := by
  unfold lcmI
  have : 0 < Nat.lcm a.toNat b.toNat := Nat.lcm_pos (by omega) (by omega)
  omega
theorem lcmI_le {a b : Int} (ha : 1 ≤ a) (hb : 1 ≤ b) (ha2 : a ≤ 10 ^ 20) (hb2 : b ≤ 10 ^ 20) : lcmI a b ≤ 10 ^ 40 := by
  unfold lcmI
  have h1 : Nat.lcm a.toNat b.toNat ≤ a.toNat * b.toNat := by
    unfold Nat.lcm; exact Nat.div_le_self _ _
  have h2 : a.toNat * b.toNat ≤ 10 ^ 20 * 10 ^ 20 := Nat.mul_le_mul (by omega) (by omega)
  have h3 : (10 : Nat) ^ 20 * 10 ^ 20 = 10 ^ 40 := by decide
  omega
theorem most_cases {ks : Str} (h : kindV (.str ks) = true) : (V.str ks = .str "rest" ∧ mostOf (.str ks) = 10 ^ 20) ∨ (V.str ks = .str "ranges" ∧ ¬ V.str ks = .str "rest" ∧ mostOf (.str ks) = 1000) := by
  obtain ⟨s, e, hs⟩ := word_str h
  cases e
  rcases List.mem_cons.mp hs with rfl | hs
  · exact .inl ⟨rfl, rfl⟩
  · rcases List.mem_cons.mp hs with rfl | hs
    · exact .inr ⟨rfl, by decide, rfl⟩
    · exact nomatch hs
/-! ### errors caught -/
theorem exm_pair {K : PySem.W.Frag} {A B : Addr} {b : Bool} (p : PySem.W.subIn K (.ref B) (.type "BaseException") = some true) (i : PySem.W.isClsIn K B = true) (t : PySem.W.typeIn K (.ref B) = some (.type "type")) (q : PySem.W.subIn K (.ref A) (.ref B) = some b) :
    PySem.W.exmOne K (.ref A) (.ref B) = some b := by
  have i' : (PySem.W.clsIn K B).isSome = true := i
  unfold PySem.W.exmOne PySem.W.kitCls
  rw [p]
  dsimp only
  rw [i', t]
  exact q
theorem kit_ve {K : PySem.W.Frag} {A : Addr} {b : Bool} (q : PySem.W.subIn K (.ref A) (.type "ValueError") = some b) : PySem.W.kitOne K (.ref A) (.type "ValueError") = some b := by
  have m : PySem.W.kitMeta "ValueError" = true := by decide +kernel
  unfold PySem.W.kitOne PySem.W.kitCls
  dsimp only
  rw [m]
  exact q
/-- isinstance of the error that a suite holds -/
def rIsG (K : PySem.W.Frag) (a : Addr) (cls : Value) (d : Option Addr) : List V → Hp → VK → Prop := fun xs H Q => ∃ D, cls = .ref D ∧ d = none ∧ ExcC K D ∧ rIsE K D a xs H Q
theorem call_isG {X : Cx} {a : Addr} {oe : Obj} {cls : Value} {d : Option Addr} {pn : List (Addr × Obj)} (hz : Zc cls d oe) (hf : ∃ vs, oe.data = .fields vs) : CallR (X.suite a ((a, oe) :: pn)) (.builtin "isinstance") (rIsG X.K a cls d) := by
  intro pins s σ H xs us Q I r h
  obtain ⟨D, rfl, rfl, C, h⟩ := h
  exact call_isE C hz hf pins s σ H xs us Q I r h
end Lc
namespace Lc
open PySem PySem.Spec PyProof.Rows L2 RZ
/-! ### data at hand -/
inductive Dt where
  | non | bl (b : Bool) | int (i : Int) | str (s : Str) | lst (xs : List Dt) | tup (z : Bool) (xs : List Dt) | dic
/-- a tuple held: z where it's known to have no dict of its own -/
inductive Tp (H : Hp) (a : Addr) : Bool → List V → Prop where
  | new {xs : List V} (e : H a = some (.tup xs)) : Tp H a false xs
  | bare {o : Obj} {xs : List V} (c : o.cls = .type "tuple") (d : o.dict = none) (e : H a = some (.frz o (.tup xs))) : Tp H a true xs
theorem Tp.sq {K : PySem.W.Frag} {H : Hp} {a : Addr} {z : Bool} {xs : List V} (h : Tp H a z xs) : SqT K H a xs := by
  cases h with
  | new e => exact SqT.of e
  | bare c d e => exact .inl (.inr ⟨_, e⟩)
theorem Tp.but {H H' : Hp} {a p : Addr} {z : Bool} {xs : List V} (b : But p H H') (ne : a ≠ p) (h : Tp H a z xs) : Tp H' a z xs := by
  cases h with
  | new e => exact .new (b _ _ ne e)
  | bare c d e => exact .bare c d (b _ _ ne e)
theorem Tp.same {H H' : Hp} {a : Addr} {z : Bool} {xs : List V} (k : Same H H') (h : Tp H a z xs) : Tp H' a z xs := by
  cases h with
  | new e => exact .new (k _ _ e)
  | bare c d e => exact .bare c d (k _ _ e)
mutual
inductive Ob (H : Hp) (p : Addr) : V → Dt → Prop where
  | non : Ob H p .non .non
  | bl (b : Bool) : Ob H p (.bl b) (.bl b)
  | int (i : Int) : Ob H p (.int i) (.int i)
  | str (s : Str) : Ob H p (.str s) (.str s)
  | lst {a : Addr} {xs : List V} {ds : List Dt} (e : H a = some (.lst xs)) (ne : a ≠ p) (all : Obs H p xs ds) : Ob H p (.ref a) (.lst ds)
  | tup {a : Addr} {z : Bool} {xs : List V} {ds : List Dt} (e : Tp H a z xs) (ne : a ≠ p) (all : Obs H p xs ds) : Ob H p (.ref a) (.tup z ds)
  | dic {a : Addr} (e : H a = some (.dK [])) (ne : a ≠ p) : Ob H p (.ref a) .dic
inductive Obs (H : Hp) (p : Addr) : List V → List Dt → Prop where
  | nil : Obs H p [] []
  | cons {v : V} {d : Dt} {vs : List V} {ds : List Dt} (h : Ob H p v d) (t : Obs H p vs ds) : Obs H p (v :: vs) (d :: ds)
end
mutual
theorem Ob.but {H H' : Hp} {p : Addr} (b : But p H H') : ∀ {v : V} {d : Dt}, Ob H p v d → Ob H' p v d
  | _, _, .non => .non
  | _, _, .bl b => .bl b
  | _, _, .int i => .int i
  | _, _, .str s => .str s
  | _, _, .lst e ne all => .lst (b _ _ ne e) ne (Obs.but b all)
  | _, _, .tup e ne all => .tup (e.but b ne) ne (Obs.but b all)
  | _, _, .dic e ne => .dic (b _ _ ne e) ne
theorem Obs.but {H H' : Hp} {p : Addr} (b : But p H H') : ∀ {vs : List V} {ds : List Dt}, Obs H p vs ds → Obs H' p vs ds
  | _, _, .nil => .nil
  | _, _, .cons h t => .cons (Ob.but b h) (Obs.but b t)
end
section
variable {H H' : Hp} {p : Addr} {v : V} {d : Dt} {vs : List V} {ds : List Dt}
theorem Ob.same (k : Same H H') (h : Ob H p v d) : Ob H' p v d := h.but fun c o _ e => k c o e
theorem Obs.same (k : Same H H') (h : Obs H p vs ds) : Obs H' p vs ds := h.but fun c o _ e => k c o e
theorem Obs.len : ∀ {vs : List V} {ds : List Dt}, Obs H p vs ds → vs.length = ds.length
  | _, _, .nil => rfl
  | _, _, .cons _ t => congrArg Nat.succ (Obs.len t)
theorem Obs.get : ∀ {vs : List V} {ds : List Dt} {i : Nat} {x : V}, Obs H p vs ds → vs[i]? = some x → ∃ d, ds[i]? = some d ∧ Ob H p x d
  | _, _, _, _, .nil, e => by simp at e
  | _, _, 0, _, .cons h _, e => by
    have e := Option.some.inj (show some _ = some _ from e)
    subst e; exact ⟨_, rfl, h⟩
  | _, _, i + 1, x, .cons _ t, e => Obs.get (i := i) t (by simpa using e)
theorem Obs.append : ∀ {vs ws : List V} {ds es : List Dt}, Obs H p vs ds → Obs H p ws es → Obs H p (vs ++ ws) (ds ++ es)
  | _, _, _, _, .nil, s => s
  | _, _, _, _, .cons h t, s => .cons h (Obs.append t s)
def tyName : Dt → String
  | .non => "NoneType" | .bl _ => "bool" | .int _ => "int" | .str _ => "str" | .lst _ => "list" | .tup _ _ => "tuple" | .dic => "dict"
theorem Ob.arg {K : PySem.W.Frag} (h : Ob H p v d) : Arg K H v (tyName d) := by
  cases h with
  | non => exact .non
  | bl b => exact .bl b
  | int i => exact .int i
  | str s => exact .str s
  | lst e _ _ => exact .lst e
  | tup e _ _ =>
    cases e with
    | new e => exact .tup e
    | bare c d e => exact .ftup e
  | dic e _ => exact .dK e
end
def isT : Dt → Bool
  | .tup _ _ => true | _ => false
def isL : Dt → Bool
  | .lst _ => true | _ => false
def isBd : Dt → Bool
  | .bl _ => true | _ => false
def isId : Dt → Bool
  | .bl _ => true | .int _ => true | _ => false
theorem kit_t {K : PySem.W.Frag} (d : Dt) : PySem.W.kitOne K (.type (tyName d)) (.type "tuple") = some (isT d) := by
  cases d <;> dsimp only [tyName, isT] <;> exact kit_ty (by decide +kernel)
theorem kit_l {K : PySem.W.Frag} (d : Dt) : PySem.W.kitOne K (.type (tyName d)) (.type "list") = some (isL d) := by
  cases d <;> dsimp only [tyName, isL] <;> exact kit_ty (by decide +kernel)
theorem kit_b {K : PySem.W.Frag} (d : Dt) : PySem.W.kitOne K (.type (tyName d)) (.type "bool") = some (isBd d) := by
  cases d <;> dsimp only [tyName, isBd] <;> exact kit_ty (by decide +kernel)
theorem kit_i {K : PySem.W.Frag} (d : Dt) : PySem.W.kitOne K (.type (tyName d)) (.type "int") = some (isId d) := by
  cases d <;> dsimp only [tyName, isId] <;> exact kit_ty (by decide +kernel)
/-! ### what a case, a house is -/
def wholeD (d : Dt) (lo hi : Int) : Bool := match d with
  | .int i => decide (lo ≤ i) && decide (i ≤ hi)
  | _ => false
def wordD (d : Dt) (ws : List Str) : Bool := match d with
  | .str s => decide (s ∈ ws)
  | _ => false
def rowD (d : Dt) (lo hi : Int) : Bool := match d with
  | .tup _ xs => decide (lo ≤ (xs.length : Int)) && decide ((xs.length : Int) ≤ hi)
  | _ => false
def itemsD : Dt → List Dt
  | .tup _ xs => xs
  | _ => []
def intD : Dt → Int
  | .int i => i
  | _ => 0
theorem whole_ob {H : Hp} {p : Addr} {v : V} {d : Dt} {lo hi : Int} (h : Ob H p v d) : wholeV v lo hi = wholeD d lo hi := by cases h <;> rfl
theorem word_ob {H : Hp} {p : Addr} {v : V} {d : Dt} {ws : List Str} (h : Ob H p v d) : wordV v ws = wordD d ws := by cases h <;> rfl
def countsD (d : Dt) : Bool := rowD d 2 3 && (itemsD d).all fun x => wholeD x 1 4
def courseD (d c : Dt) : Bool := rowD d ((itemsD c).length : Nat) ((itemsD c).length : Nat) && ((itemsD d).zip (itemsD c)).all fun q => wholeD q.1 0 (intD q.2 - 1)
def refusals : List Str := ["back", "lost"]
def notings : List Str := ["behind", "first", "with"]
def planWords : List Str := ["show", "tell", "agree", "close", "clear", "drain", "copy", "open", "drop"]
def schemeD (d : Dt) : Bool := match d with
  | .tup _ [a, b, r, n, s] => isBd a && isBd b && isBd s && (wordD r refusals && wordD n notings)
  | _ => false
def isShow : Dt → Bool
  | .str s => decide (s = "show")
  | _ => false
def shows (d : Dt) : Nat := (itemsD d).countP isShow
def planD (d : Dt) : Bool := rowD d 1 15 && ((itemsD d).all (fun x => wordD x planWords) && (decide (1 ≤ shows d) && decide (shows d ≤ 2)))
def frameD (s p c : Dt) : Bool := schemeD s && (planD p && (countsD c && decide ((itemsD c).length = shows p + 1)))
def caseD (d : Dt) : Bool := match d with
  | .tup _ [s, p, c, o] => frameD s p c && courseD o c
  | _ => false
def keysD (o l c : Dt) : Bool := (rowD o 1 3 && rowD l ((itemsD o).length : Nat) ((itemsD o).length : Nat)) && ((itemsD o).all (fun x => courseD x c) && (itemsD l).all fun x => wholeD x 1 3)
def houseD (d : Dt) : Bool := match d with
  | .tup _ [s, p, c, o, l, n] => frameD s p c && (keysD o l c && wholeD n 1 3)
  | _ => false
/-- the plan's tuple, where its words are words, has no dict -/
def fzPlan : Dt → Prop
  | .tup z xs => rowD (.tup z xs) 1 15 = true → (xs.all fun x => wordD x planWords) = true → z = true
  | _ => True
def fzCase : Dt → Prop
  | .tup _ [_, p, _, _] => fzPlan p
  | _ => True
def fzHouse : Dt → Prop
  | .tup _ [_, p, _, _, _, _] => fzPlan p
  | _ => True
/-! ### promises -/
def spRow : Sp := fun vs H Q _ => ∃ (p : Addr) (x : V) (d : Dt) (lo hi : Int), vs = [x, .int lo, .int hi] ∧ Ob H p x d ∧ Q (.bl (rowD d lo hi)) H
/-- a test of one object -/
def spIs (ok : Dt → Prop) (f : Dt → Bool) : Sp := fun vs H Q _ => ∃ (p : Addr) (x : V) (d : Dt), vs = [x] ∧ Ob H p x d ∧ ok d ∧ ∀ H', Same H H' → Q (.bl (f d)) H'
def spIs2 (ok : Dt → Prop) (f : Dt → Dt → Bool) : Sp := fun vs H Q _ => ∃ (p : Addr) (x y : V) (d e : Dt), vs = [x, y] ∧ Ob H p x d ∧ Ob H p y e ∧ ok e ∧ ∀ H', Same H H' → Q (.bl (f d e)) H'
def spIs3 (ok : Dt → Dt → Dt → Prop) (f : Dt → Dt → Dt → Bool) : Sp := fun vs H Q _ => ∃ (p : Addr) (x y z : V) (d e g : Dt), vs = [x, y, z] ∧ Ob H p x d ∧ Ob H p y e ∧ Ob H p z g ∧ ok d e g ∧ ∀ H', Same H H' → Q (.bl (f d e g)) H'
/-- all([test of x for x in t]), t a tuple -/
theorem all_comp {K : PySem.W.Frag} {a : Addr} {xs : List V} {ds : List Dt} {i0 j : Nat} {te : TE} {σ : L2.St} {H : Hp} {Q : VK} {p : Addr} (f : Dt → Bool) (hj : σ[j]? = some (some (.ref a))) {z : Bool} (hT : Tp H a z xs) (hO : Obs H p xs ds) (hl : xs.length ≤ 1000)
    (hte : ∀ (x : V) (d : Dt) (H' : Hp) (R : VK), Same H H' → Ob H' p x d → (∀ H2, Same H' H2 → R (.bl (f d)) H2) → te ((wipe σ [i0]).set i0 (some x)) H' R)
    (hw : ∀ x : V, wipe ((wipe σ [i0]).set i0 (some x)) [i0] = wipe σ [i0])
    (q : ∀ H', Same H H' → Q (.bl (ds.all f)) H') : tCB (rAll K) (tCons (tLc (iTup K (tVar j)) (gName i0) tYes te [i0]) tNil) σ H Q := by
  refine ⟨_, hj, a, rfl, ⟨_, hT.sq⟩, fun D hD => ?_⟩
  have len := hO.len
  refine lc_tup (K := K) (a := a) (xs := xs) (fun i H' => Same H H' ∧ H' D = some (.lst (((ds.take i).map f).map V.bl))) ⟨same_upd hD, upd_same⟩ (fun i H' _ h => (hT.same h.1).sq) ?_ ?_
  · rintro i x H' hx ⟨k, e⟩
    obtain ⟨d, hd, ob⟩ := (hO.same k).get hx
    refine ⟨hw x, hte x d H' _ k ob fun H2 k2 => ⟨_, k2 _ _ e, ?_, fun c o hc => ?_, ?_⟩⟩
    · rw [List.length_map, List.length_map, List.length_take]
      exact Nat.lt_of_le_of_lt (show _ ≤ 1000 by omega) (by decide)
    · rw [upd_ne (ne_of_none hc hD)]; exact k2 _ _ (k c o hc)
    · rw [upd_same, List.take_add_one, hd, List.map_append, List.map_append]; rfl
  · rintro H' ⟨k, e⟩
    rw [len, List.take_length] at e
    refine ⟨D, _, rfl, SqL.of e, ?_⟩
    have e2 : (ds.map f).all id = ds.all f := by rw [List.all_map]; rfl
    rw [e2]
    exact q H' k
/-- all([test of x, y for x, y in zip(t, u)]), t, u tuples -/
theorem all_zip {K : PySem.W.Frag} {a b : Addr} {xs ys : List V} {ds es : List Dt} {i1 i2 j1 j2 : Nat} {te : TE} {σ : L2.St} {H : Hp} {Q : VK} {p : Addr} (f : Dt × Dt → Bool) (hj : σ[j1]? = some (some (.ref a))) (hj2 : σ[j2]? = some (some (.ref b)))
    {z : Bool} (hT : Tp H a z xs) {z2 : Bool} (hU : Tp H b z2 ys) (hO : Obs H p xs ds) (hP : Obs H p ys es) (hl : xs.length ≤ 1000)
    (hte : ∀ (x y : V) (d e : Dt) (H' : Hp) (R : VK), Same H H' → Ob H' p x d → Ob H' p y e → e ∈ es → (∀ H2, Same H' H2 → R (.bl (f (d, e))) H2) → te (((wipe σ [i1, i2]).set i1 (some x)).set i2 (some y)) H' R)
    (hw : ∀ x y : V, wipe (((wipe σ [i1, i2]).set i1 (some x)).set i2 (some y)) [i1, i2] = wipe σ [i1, i2])
    (q : ∀ H', Same H H' → Q (.bl ((ds.zip es).all f)) H') : tCB (rAll K) (tCons (tLc (iZipA K (tCons (tVar j1) (tCons (tVar j2) tNil))) (gTup K 2 (gCons (gName i1) (gCons (gName i2) gNil))) tYes te [i1, i2]) tNil) σ H Q := by
  refine ⟨_, hj, _, hj2, a, b, xs, ys, rfl, .inr ⟨hT.sq, hU.sq, fun D hD => ?_⟩⟩
  have l1 := hO.len
  have l2 := hP.len
  have lz : (ds.zip es).length ≤ 1000 := by rw [List.length_zip]; omega
  refine ⟨fun i m H' => m = (ds.zip es).length - i ∧ i ≤ (ds.zip es).length ∧ Same H H' ∧ H' D = some (.lst ((((ds.zip es).take i).map f).map V.bl)), ⟨_, rfl, Nat.zero_le _, same_upd hD, upd_same⟩, ?_⟩
  rintro i m H' ⟨rfl, hi, k, e⟩
  by_cases lt : i < (ds.zip es).length
  · have lt2 := lt
    rw [List.length_zip] at lt2
    have gx : xs[i]? = some xs[i] := List.getElem?_eq_getElem (by omega)
    have gy : ys[i]? = some ys[i] := List.getElem?_eq_getElem (by omega)
    obtain ⟨d, gd, od⟩ := (hO.same k).get gx
    obtain ⟨e', ge, oe⟩ := (hP.same k).get gy
    refine .inr ⟨⟨xs, ys, _, _, (hT.same k).sq, (hU.same k).sq, gx, gy⟩, fun H2 => Same H H2 ∧ H2 D = some (.lst ((((ds.zip es).take (i + 1)).map f).map V.bl)), fun H2 h2 => ⟨_, by omega, rfl, lt, h2⟩, ?_⟩
    rintro v H2 ⟨t, x, y, rfl, ht, rfl, fx, fy⟩
    have ex : x = xs[i] := Option.some.inj ((fx _ ((hT.same k).sq)).symm.trans gx)
    have ey : y = ys[i] := Option.some.inj ((fy _ ((hU.same k).sq)).symm.trans gy)
    subst ex; subst ey
    have kt := same_upd (o := .tup [xs[i], ys[i]]) ht
    refine ⟨t, _, rfl, SqT.of upd_same, rfl, _, _, rfl, _, _, rfl, rfl, ?_⟩
    refine ⟨hw _ _, hte _ _ d e' _ _ (k.trans kt) (od.same kt) (oe.same kt) (List.mem_of_getElem? ge) fun H3 k3 => ⟨_, k3 _ _ (kt _ _ e), ?_, fun c o hc => ?_, ?_⟩⟩
    · rw [List.length_map, List.length_map, List.length_take]
      exact Nat.lt_of_le_of_lt (show _ ≤ 1000 by omega) (by decide)
    · rw [upd_ne (ne_of_none hc hD)]; exact k3 _ _ (kt _ _ (k c o hc))
    · have gz : (ds.zip es)[i]? = some (d, e') := by rw [List.getElem?_zip_eq_some]; exact ⟨gd, ge⟩
      rw [upd_same, List.take_add_one, gz, List.map_append, List.map_append]; rfl
  · have ei : i = (ds.zip es).length := by omega
    subst ei
    rw [List.take_length] at e
    have e2 : ((ds.zip es).map f).all id = (ds.zip es).all f := by rw [List.all_map]; rfl
    refine .inl ⟨⟨xs, ys, (hT.same k).sq, (hU.same k).sq, ?_⟩, D, _, rfl, SqL.of e, ?_⟩
    · rw [List.length_zip]; omega
    · rw [e2]; exact q H' k
/-! ### t.count(text) -/
def rTCnt (K : PySem.W.Frag) : V → List V → Hp → VK → Prop := fun x xs H Q => ∃ (p : Addr) (ws : List Str) (k : Str), x = .ref p ∧ xs = [.str k] ∧ SqT K H p (ws.map V.str) ∧ Q (.int (ws.countP fun y => decide (y = k) : Nat)) H
theorem dp_strs {K : PySem.W.Frag} {H : Hp} : ∀ ws : List Str, DpAll K H (ws.map V.str) (ws.map PyData.str)
  | [] => .nil
  | w :: r => .cons (.str w) (dp_strs r)
theorem plain_strs : ∀ ws : List Str, PyData.plainAll (ws.map PyData.str) = true
  | [] => rfl
  | w :: r => by
    rw [List.map_cons]
    show (PyData.plain (.str w) && PyData.plainAll (r.map PyData.str)) = true
    rw [plain_strs r]; rfl
theorem mt_tcount {X : Cx} (hu : X.A.units + 64 < cLine) : MtR X "tuple.count" (rTCnt X.K) := by
  intro pins s σ H x xs v us Q I rx rxs h
  obtain ⟨p, ws, k, rfl, rfl, hs, q⟩ := h
  cases rx
  obtain ⟨u, rfl, ru⟩ := rxs.one
  obtain ⟨its, rv, pt, _⟩ := I.tuple hs
  obtain ⟨as, rs⟩ := Dp.readsAll I (ws.map PyData.str) (ws.map V.str) its (dp_strs ws) rv
  obtain ⟨bs, rk⟩ := Dp.reads I (.str k) (.str k) u (.str k) ru
  have dk : PyData.depth (.str k) ≤ 1 := by simp [PyData.depth]
  refine PySem.SeqAt.count_tuple_data pt (by simpa using rs) rk (plain_strs ws) rfl (by have := Nat.min_le_right (PyData.depthAll (ws.map PyData.str)) (PyData.depth (.str k)); omega) ⟨.int _, H, I.tok _, ⟨_, rfl⟩, ?_⟩
  have e : (ws.map PyData.str).countP (fun y => PyData.eqv y (.str k)) = ws.countP fun y => decide (y = k) := by
    rw [List.countP_map]
    congr 1
  rw [e]; exact q
/-! ### tuples laid, known to have no dict -/
section
variable {X : Cx} {es : List Expr} {t : TA} {pos : Pos}
/-- (e, ..) -/
def tTupF (t : TA) : TE := fun σ H Q => t σ H fun xs H1 => xs.length ≤ sizeLine ∧ ∀ p H2, H1 p = none → Same H1 H2 → Tp H2 p true xs → (∀ b, H2 b = none → H1 b = none) → Q (.ref p) H2
theorem fz_same {H : Hp} {p : Addr} {u : HO} (h : H p = none) : ∀ b, (upd H p u) b = none → H b = none := fun b e => by
  by_cases z : b = p
  · subst z; exact h
  · rw [upd_ne z] at e; exact e
theorem pe_tupF {c} (h : PA X es t) : PE X (.Tuple es c pos) (tTupF t) := by
  refine ⟨fun pins s σ H Q I hq => ?_⟩
  refine wpAny_Tuple_spliced (thn (h.run pos pins s σ H _ I hq) fun us s1 ⟨xs, H1, I1, r, z, q⟩ => ⟨by rw [← r.length]; exact z, ?_⟩)
  have hf : H1 s1.heap.objs.size = none := I1.hok.fresh (Nat.le_refl _)
  refine ⟨.ref s1.heap.objs.size, _, I1.laid (t' := s1.toks) (o := .frz { cls := .type "tuple", data := .seq us.toArray } (.tup xs)) (fun b u e => Heap.get?_push_of_some _ e) (Nat.le_refl _) ?_, rfl, q _ _ hf (same_upd hf) (.bare rfl rfl upd_same) (fz_same hf)⟩
  exact ⟨Heap.get?_push_size _ rfl, z, us, r, ⟨_, Heap.get?_push_size _ rfl, rfl, _, rfl⟩⟩
/-- tuple(a list) -/
def tTupOfF (K : PySem.W.Frag) (ta : TE) : TE := fun σ H Q => ta σ H fun x H1 => ∃ a xs, x = .ref a ∧ SqL K H1 a xs ∧ ∀ p H2, H1 p = none → Same H1 H2 → Tp H2 p true xs → (∀ b, H2 b = none → H1 b = none) → Q (.ref p) H2
theorem pe_tupleOfF {a : Expr} {ta : TE} {p pos : Pos} (hg : Gl X "tuple") (hm : X.mg "tuple" = none) (ha : PE X a ta) (na : starEach [a] X.env = (false, eval a X.env) :: starEach [] X.env := by rfl) : PE X (.Call (.Name "tuple" p) [a] [] pos) (tTupOfF X.K ta) := by
  refine ⟨fun pins s σ H Q I h => ?_⟩
  refine Call_ (ld_blt I hg hm boot_tuple (PyProof.Rows.callWith_type1 (one_arg ha I h (fun v s2 x H2 I2 r q => ?_) na) na))
  obtain ⟨b, xs, rfl, hs, q⟩ := q
  obtain rfl : v = .ref b := r
  obtain ⟨its, rv, pl, hz⟩ := I2.list hs
  refine call_tuple_list pl.isList (fun h' hk => ?_) (by rw [List.size_toArray, ← rv.length]; exact hz)
  have I3 : Inv X pins σ H2 { s2 with heap := h' } := I2.kept (t' := s2.toks) hk
  have hf : H2 h'.objs.size = none := I3.hok.fresh (Nat.le_refl _)
  refine ⟨.ref h'.objs.size, _, I3.laid (t' := s2.toks) (o := .frz { cls := .type "tuple", data := .seq its.toArray } (.tup xs)) (fun b o e => Heap.get?_push_of_some _ e) (Nat.le_refl _) ?_, rfl, q _ _ hf (same_upd hf) (.bare rfl rfl upd_same) (fz_same hf)⟩
  exact ⟨Heap.get?_push_size _ rfl, hz, its, rv, IsTup.new _ _⟩
/-- t + u -/
def rCatF (K : PySem.W.Frag) : R2 := fun x y H Q => ∃ a b xs ys, x = .ref a ∧ y = .ref b ∧ SqT K H a xs ∧ SqT K H b ys ∧ xs.length + ys.length ≤ sizeLine ∧
  (xs = [] → Q (.ref b) H) ∧ (xs ≠ [] → ys = [] → Q (.ref a) H) ∧ (xs ≠ [] → ys ≠ [] → ∀ p H2, H p = none → Same H H2 → Tp H2 p true (xs ++ ys) → (∀ b, H2 b = none → H b = none) → Q (.ref p) H2)
theorem op_catF : OpR X (binaryOp .Add) (rCatF X.K) := by
  intro pins s σ H x y v u Q I rx ry h
  obtain ⟨a, b, xs, ys, rfl, rfl, ha, hb, hz, q0, q1, q2⟩ := h
  cases rx
  cases ry
  obtain ⟨its, r1, p1, _⟩ := I.tuple ha
  obtain ⟨its2, r2, p2, _⟩ := I.tuple hb
  by_cases hx : xs = []
  · subst hx
    cases r1
    exact cat_tup0 p1 p2 ⟨.ref b, H, I, rfl, q0 rfl⟩
  · refine HT.cat_tup p1 p2 (fun z => hx (r1.nil_iff.mp z)) (fun z => ⟨.ref a, H, I, rfl, q1 hx (r2.nil_iff.mp z)⟩) (fun z => ?_) (by rw [← r1.length, ← r2.length]; exact hz)
    have hf : H s.heap.objs.size = none := I.hok.fresh (Nat.le_refl _)
    refine ⟨.ref s.heap.objs.size, _, I.laid (t' := s.toks) (o := .frz { cls := .type "tuple", data := .seq (its ++ its2).toArray } (.tup (xs ++ ys))) (fun b ob q => Heap.get?_push_of_some _ q) (Nat.le_refl _) ?_, rfl, q2 hx (fun w => z (r2.nil_iff.mpr w)) _ _ hf (same_upd hf) (.bare rfl rfl upd_same) (fz_same hf)⟩
    exact ⟨Heap.get?_push_size _ rfl, by rw [List.length_append]; exact hz, _, r1.append r2, IsTup.new _ _⟩
end
/-! ### t * k, k at least one -/
section
open PySem.AutoSeq1 (wpAny_loadPart')
theorem tuple_mul1 (l : Addr) (items : Array Value) (n : Nat) (dd : Option Addr) (sl : Array (Option Value)) (u : Tok) :
    Meets (Builtin.«tuple.__mul__» ⟨[.ref l, .int 1 u], []⟩) (fun _ R s => s.heap.get? l = some { cls := .type "tuple", dict := dd, data := .seq items n, slots := sl } ∧ R (.ok (.ret (Value.ref l))) s) :=
  .of_wp fun prog w A R s h => by
    obtain ⟨hp, g, d, tk, os⟩ := s
    obtain ⟨hl, h⟩ := h
    have f1 := AutoSeq1.idx_int
    have c0 : (decide ((1 : Int) < -(2 ^ 63)) || decide ((1 : Int) ≥ 2 ^ 63)) = false := by decide
    have c1 : (items.isEmpty || (1 : Int) == 1) = true := by simp
    wp_walk using wpAny_loadPart' hl
    repeat (first
      | (refine wpAny_ite_false (decide_eq_false (by rw [c0]; exact Bool.false_ne_true)) ?_; wp_walk using wpAny_loadPart' hl)
      | (refine wpAny_ite_true (decide_eq_true c1) ?_; wp_walk using wpAny_loadPart' hl))
    exact ⟨_, rfl, h⟩
def rRepF (K : PySem.W.Frag) : R2 := fun x y H Q => ∃ l k xs, x = .ref l ∧ y = .int k ∧ SqT K H l xs ∧ xs ≠ [] ∧ 1 ≤ k ∧ k ≤ 1000 ∧ xs.length ≤ 1000 ∧ (k = 1 → Q (.ref l) H) ∧ (2 ≤ k → ∀ p, H p = none → Q (.ref p) (upd H p (.tup (List.replicate k.toNat xs).flatten)))
theorem op_repF {X : Cx} : OpR X (binaryOp .Mult) (rRepF X.K) := by
  intro pins s σ H x y v u Q I rx ry h
  obtain ⟨l, k, xs, rfl, rfl, hT, hne, h1, h2, hz, q1, q2⟩ := h
  by_cases hk : k = 1
  · subst hk
    cases rx
    obtain ⟨t, rfl⟩ := ry
    obtain ⟨its, r, ⟨⟨cls, dd, data, sl⟩, ho, hc, n, hd⟩, hs⟩ := I.tuple hT
    simp only at hc hd
    subst hc hd
    refine wpAny_binaryOp_repeat_ref (T := "tuple") (U := "int") (by decide) ⟨_, ho, rfl⟩ (fun s' => typeIs_int s' 1 t) noFill_tuple_mul PySem.F.fills_int_mul PySem.F.slot_int_rmul repeat_tuple PySem.F.slot_int_index.lookup
      (call_meets PySem.F.slot_int_rmul (typeIs_int s 1 t) PySem.F.entry_int_rmul (PySem.F.args_int_rmul_2 _ _) (int_rmul_tuple 1 t l its.toArray n dd sl)
        ⟨ho, rfl, ⟨_, ho, rfl⟩, call_meets PySem.F.slot_tuple_mul ⟨_, ho, rfl⟩ PySem.F.entry_tuple_mul (PySem.F.args_tuple_mul_2 _ _) (tuple_mul1 l its.toArray n dd sl t) ⟨ho, ?_⟩⟩)
    exact ⟨.ref l, H, I, rfl, q1 rfl⟩
  · exact op_repT pins s σ H _ _ v u Q I rx ry ⟨l, k, xs, rfl, rfl, hT, hne, by omega, h2, hz, q2 (by omega)⟩
end
/-! ### a method of a tuple that has no dict -/
def tBMF (r : V → List V → Hp → VK → Prop) (to : TE) (t : TA) : TE := fun σ H Q => to σ H fun x H1 => (∃ a xs, x = .ref a ∧ Tp H1 a true xs) ∧ t σ H1 fun xs H2 => r x xs H2 Q
section
variable {X : Cx} {o e : Expr} {es : List Expr} {to : TE} {t : TA} {name : Str} {apos cpos : Pos} {id : String} {r : V → List V → Hp → VK → Prop}
theorem pe_bmF (pa : PlainAttrs "tuple") (slot : Slot "tuple" name id) (hty : typeOf (.builtin id) = pure (.type "method_descriptor")) (hm : MtR X id r) (ho : PE X o to) (ha : PA X (e :: es) t)
    (hbase : attributeBase o name X.env (eval o X.env) = eval o X.env := by rfl)
    (hfew : ((backTo cpos (starEach (e :: es) X.env)).all (fun x => !x.1) && (backToKw cpos (keywordEach [] X.env)).all (fun x => x.1.isSome)
      && decide ((e :: es).length + ([] : List Keyword).length + (if ([] : List Keyword).isEmpty then 0 else 1) < 30)) = true := by rfl)
    (hline : (apos.endLine == cpos.line) = true := by rfl) (hs : starEach (e :: es) X.env = (false, eval e X.env) :: starEach es X.env := by rfl) (hplain : (backTo cpos (starEach es X.env)).any (·.1) = false := by rfl) :
    PE X (.Call (.Attribute o name apos) (e :: es) [] cpos) (tBMF r to t) := by
  refine ⟨fun pins s σ H Q I h => ?_⟩
  refine wpAny_Call_method_late hbase hfew hline rfl (thn (ho.run pins s σ H _ I h) fun v s1 ⟨x, H1, I1, r1, ty, q1⟩ => ?_)
  have hh : s1.TypeIs v "tuple" ∧ ∀ a, v = .ref a → ∃ ob, s1.heap.get? a = some ob ∧ ob.dict = none := by
    obtain ⟨a, xs, rfl, tp⟩ := ty
    obtain rfl : v = .ref a := r1
    cases tp with
    | @bare ob _ c d e =>
      obtain ⟨g, _⟩ := I1.hok a _ e
      exact ⟨⟨ob, g, c⟩, fun b z => by cases z; exact ⟨ob, g, d⟩⟩
  obtain ⟨h1, h2⟩ := hh
  refine ⟨"tuple", id, pa, slot, hty, h1, h2, ?_⟩
  have hA := ha.run cpos pins s1 σ H1 _ I1 q1
  rw [hs] at hA ⊢
  refine Calls.callWith_builtin (by show (false || (backTo cpos (starEach es X.env)).any (·.1)) = false; rw [hplain] <;> rfl) (Calls.evalArgs_plain ?_)
  exact thn hA fun us s2 ⟨vs, H2, I2, r2, q2⟩ => hm pins s2 σ H2 x vs v us Q I2 r1 r2 q2
end
end Lc
namespace Lc
open PySem PySem.Spec PyProof.Rows L2 RZ
/-! ### comprehensions in comprehensions -/
def relabelC (sc scope : Scope) : Scope :=
  { scope with names := scope.names.map fun q => if q.2 == .free && sc.kind == .function && sc.names.lookup q.1 == some .cell then (q.1, .cell) else (q.1, q.2) }
theorem blkOk_in {N : List Str} {sc0 scO scI : Scope} {env : Env} {own : List (Str × Nat)} (he : env.scope = sc0) (h : blkC N (relabelC sc0 scO) scI own = true) : BlkOk N (relabel scO env) scI own := by
  have e : relabel scO env = relabelC sc0 scO := by subst he; rfl
  rw [e]
  exact blkOk_by h
/-! ### data trees, some addresses kept out -/
abbrev AS := Addr → Prop
def And1 (Av : Addr → Prop) (D : Addr) : Addr → Prop := fun b => Av b ∨ b = D
mutual
inductive Oc (H : Hp) (S : AS) : V → Dt → Prop where
  | non : Oc H S .non .non
  | bl (b : Bool) : Oc H S (.bl b) (.bl b)
  | int (i : Int) : Oc H S (.int i) (.int i)
  | str (s : Str) : Oc H S (.str s) (.str s)
  | lst {a : Addr} {xs : List V} {ds : List Dt} (e : H a = some (.lst xs)) (ne : ¬ S a) (all : Ocs H S xs ds) : Oc H S (.ref a) (.lst ds)
  | tup {a : Addr} {z : Bool} {xs : List V} {ds : List Dt} (e : Tp H a z xs) (ne : ¬ S a) (all : Ocs H S xs ds) : Oc H S (.ref a) (.tup z ds)
inductive Ocs (H : Hp) (S : AS) : List V → List Dt → Prop where
  | nil : Ocs H S [] []
  | cons {v : V} {d : Dt} {vs : List V} {ds : List Dt} (h : Oc H S v d) (t : Ocs H S vs ds) : Ocs H S (v :: vs) (d :: ds)
end
/-- all but S stands as it was -/
def ButS (S : AS) (H H' : Hp) : Prop := ∀ b o, ¬ S b → H b = some o → H' b = some o
def Lv (H : Hp) (S : AS) : Prop := ∀ a, S a → H a ≠ none
theorem Tp.butS {H H' : Hp} {S : AS} {a : Addr} {z : Bool} {xs : List V} (b : ButS S H H') (ne : ¬ S a) (h : Tp H a z xs) : Tp H' a z xs := by
  cases h with
  | new e => exact .new (b _ _ ne e)
  | bare c d e => exact .bare c d (b _ _ ne e)
mutual
theorem Oc.but {H H' : Hp} {S : AS} (b : ButS S H H') : ∀ {v : V} {d : Dt}, Oc H S v d → Oc H' S v d
  | _, _, .non => .non
  | _, _, .bl b => .bl b
  | _, _, .int i => .int i
  | _, _, .str s => .str s
  | _, _, .lst e ne all => .lst (b _ _ ne e) ne (Ocs.but b all)
  | _, _, .tup e ne all => .tup (e.butS b ne) ne (Ocs.but b all)
theorem Ocs.but {H H' : Hp} {S : AS} (b : ButS S H H') : ∀ {vs : List V} {ds : List Dt}, Ocs H S vs ds → Ocs H' S vs ds
  | _, _, .nil => .nil
  | _, _, .cons h t => .cons (Oc.but b h) (Ocs.but b t)
end
mutual
theorem Oc.sub {H : Hp} {S S' : AS} (k : ∀ a, S' a → S a) : ∀ {v : V} {d : Dt}, Oc H S v d → Oc H S' v d
  | _, _, .non => .non
  | _, _, .bl b => .bl b
  | _, _, .int i => .int i
  | _, _, .str s => .str s
  | _, _, .lst e ne all => .lst e (fun z => ne (k _ z)) (Ocs.sub k all)
  | _, _, .tup e ne all => .tup e (fun z => ne (k _ z)) (Ocs.sub k all)
theorem Ocs.sub {H : Hp} {S S' : AS} (k : ∀ a, S' a → S a) : ∀ {vs : List V} {ds : List Dt}, Ocs H S vs ds → Ocs H S' vs ds
  | _, _, .nil => .nil
  | _, _, .cons h t => .cons (Oc.sub k h) (Ocs.sub k t)
end
theorem Tp.some {H : Hp} {a : Addr} {z : Bool} {xs : List V} (h : Tp H a z xs) : H a ≠ none := by
  cases h with
  | new e => rw [e]; exact fun z => nomatch z
  | bare c d e => rw [e]; exact fun z => nomatch z
mutual
theorem Oc.add {H : Hp} {S : AS} {D : Addr} (hD : H D = none) : ∀ {v : V} {d : Dt}, Oc H S v d → Oc H (And1 S D) v d
  | _, _, .non => .non
  | _, _, .bl b => .bl b
  | _, _, .int i => .int i
  | _, _, .str s => .str s
  | _, _, .lst e ne all => .lst e (fun z => z.elim ne fun y => by rw [y, hD] at e; cases e) (Ocs.add hD all)
  | _, _, .tup e ne all => .tup e (fun z => z.elim ne fun y => e.some (y ▸ hD)) (Ocs.add hD all)
theorem Ocs.add {H : Hp} {S : AS} {D : Addr} (hD : H D = none) : ∀ {vs : List V} {ds : List Dt}, Ocs H S vs ds → Ocs H (And1 S D) vs ds
  | _, _, .nil => .nil
  | _, _, .cons h t => .cons (Oc.add hD h) (Ocs.add hD t)
end
section
variable {H H' : Hp} {S S' : AS} {v : V} {d : Dt} {vs : List V} {ds : List Dt}
theorem Same.butS (k : Same H H') : ButS S H H' := fun b o _ e => k b o e
theorem Oc.same (k : Same H H') (h : Oc H S v d) : Oc H' S v d := h.but (Same.butS k)
theorem Ocs.same (k : Same H H') (h : Ocs H S vs ds) : Ocs H' S vs ds := h.but (Same.butS k)
theorem Ocs.len : ∀ {vs : List V} {ds : List Dt}, Ocs H S vs ds → vs.length = ds.length
  | _, _, .nil => rfl
  | _, _, .cons _ t => congrArg Nat.succ (Ocs.len t)
theorem Ocs.get : ∀ {vs : List V} {ds : List Dt} {i : Nat} {x : V}, Ocs H S vs ds → vs[i]? = some x → ∃ d, ds[i]? = some d ∧ Oc H S x d
  | _, _, _, _, .nil, e => by simp at e
  | _, _, 0, _, .cons h _, e => by
    have e := Option.some.inj (show some _ = some _ from e)
    subst e; exact ⟨_, rfl, h⟩
  | _, _, i + 1, x, .cons _ t, e => Ocs.get (i := i) t (by simpa using e)
theorem Ocs.at : ∀ {vs : List V} {ds : List Dt} {i : Nat} {d : Dt}, Ocs H S vs ds → ds[i]? = some d → ∃ x, vs[i]? = some x ∧ Oc H S x d
  | _, _, _, _, .nil, e => by simp at e
  | _, _, 0, _, .cons h _, e => by
    have e := Option.some.inj (show some _ = some _ from e)
    subst e; exact ⟨_, rfl, h⟩
  | _, _, i + 1, x, .cons _ t, e => Ocs.at (i := i) t (by simpa using e)
theorem Ocs.append : ∀ {vs ws : List V} {ds es : List Dt}, Ocs H S vs ds → Ocs H S ws es → Ocs H S (vs ++ ws) (ds ++ es)
  | _, _, _, _, .nil, s => s
  | _, _, _, _, .cons h t, s => .cons h (Ocs.append t s)
theorem Ocs.snoc (h : Ocs H S vs ds) (t : Oc H S v d) : Ocs H S (vs ++ [v]) (ds ++ [d]) := h.append (.cons t .nil)
theorem Oc.put {D : Addr} {o : HO} (hD : S D) (h : Oc H S v d) : Oc (upd H D o) S v d := h.but fun b u n e => by
  rw [upd_ne (fun z => n (by rw [z]; exact hD))]; exact e
theorem Ocs.put {D : Addr} {o : HO} (hD : S D) (h : Ocs H S vs ds) : Ocs (upd H D o) S vs ds := h.but fun b u n e => by
  rw [upd_ne (fun z => n (by rw [z]; exact hD))]; exact e
theorem Lv.same (k : Same H H') (h : Lv H S) : Lv H' S := fun a ha z => by
  cases y : H a with
  | none => exact h a ha y
  | some o => rw [k _ _ y] at z; cases z
theorem Lv.add {D : Addr} {o : HO} (h : Lv H S) (hD : H D = none) : Lv (upd H D o) (And1 S D) := fun b hb z => by
  rcases hb with hb | hb
  · exact Lv.same (same_upd hD) h b hb z
  · subst hb; rw [upd_same] at z; cases z
theorem Lv.out {D : Addr} (h : Lv H S) (hD : H D = none) : ¬ S D := fun z => h D z hD
theorem Oc.arg {K : PySem.W.Frag} (h : Oc H S v d) : Arg K H v (tyName d) := by
  cases h with
  | non => exact .non
  | bl b => exact .bl b
  | int i => exact .int i
  | str s => exact .str s
  | lst e _ _ => exact .lst e
  | tup e _ _ =>
    cases e with
    | new e => exact .tup e
    | bare c d e => exact .ftup e
theorem Oc.lst_inv (h : Oc H S v (.lst ds)) : ∃ a xs, v = .ref a ∧ H a = some (.lst xs) ∧ ¬ S a ∧ Ocs H S xs ds := by
  cases h with
  | lst e ne all => exact ⟨_, _, rfl, e, ne, all⟩
theorem Oc.tup_inv {z : Bool} (h : Oc H S v (.tup z ds)) : ∃ a xs, v = .ref a ∧ Tp H a z xs ∧ ¬ S a ∧ Ocs H S xs ds := by
  cases h with
  | tup e ne all => exact ⟨_, _, rfl, e, ne, all⟩
theorem Oc.int_inv {i : Int} (h : Oc H S v (.int i)) : v = .int i := by cases h; rfl
theorem Oc.bl_inv {i : Bool} (h : Oc H S v (.bl i)) : v = .bl i := by cases h; rfl
theorem Oc.str_inv {i : Str} (h : Oc H S v (.str i)) : v = .str i := by cases h; rfl
theorem Ocs.ints : ∀ {vs : List V} {ns : List Int}, Ocs H S vs (ns.map Dt.int) → vs = ns.map V.int
  | _, [], .nil => rfl
  | _, n :: r, .cons h t => by rw [h.int_inv, Ocs.ints t]; rfl
theorem ocs_ints : ∀ ns : List Int, Ocs H S (ns.map V.int) (ns.map Dt.int)
  | [] => .nil
  | n :: r => .cons (.int n) (ocs_ints r)
theorem Ocs.strs : ∀ {vs : List V} {ns : List Str}, Ocs H S vs (ns.map Dt.str) → vs = ns.map V.str
  | _, [], .nil => rfl
  | _, n :: r, .cons h t => by rw [h.str_inv, Ocs.strs t]; rfl
theorem Ocs.bls : ∀ {vs : List V} {ns : List Bool}, Ocs H S vs (ns.map Dt.bl) → vs = ns.map V.bl
  | _, [], .nil => rfl
  | _, n :: r, .cons h t => by rw [h.bl_inv, Ocs.bls t]; rfl
end
mutual
theorem Oc.ob {H : Hp} {S : AS} {p : Addr} (hp : S p) : ∀ {v : V} {d : Dt}, Oc H S v d → Ob H p v d
  | _, _, .non => .non
  | _, _, .bl b => .bl b
  | _, _, .int i => .int i
  | _, _, .str s => .str s
  | _, _, .lst e ne all => .lst e (fun z => ne (z ▸ hp)) (Ocs.ob hp all)
  | _, _, .tup e ne all => .tup e (fun z => ne (z ▸ hp)) (Ocs.ob hp all)
theorem Ocs.ob {H : Hp} {S : AS} {p : Addr} (hp : S p) : ∀ {vs : List V} {ds : List Dt}, Ocs H S vs ds → Obs H p vs ds
  | _, _, .nil => .nil
  | _, _, .cons h t => .cons (Oc.ob hp h) (Ocs.ob hp t)
end
/-! ### from one place to a later one -/
structure Lift (H : Hp) (S : AS) (H1 : Hp) (S1 : AS) : Prop where
  ob : ∀ {u : V} {e : Dt}, Oc H S u e → Oc H1 S1 u e
  live : Lv H1 S1
  sub : ∀ a, S a → S1 a
  same : Same H H1
theorem Lift.refl {H : Hp} {S : AS} (l : Lv H S) : Lift H S H S := ⟨fun h => h, l, fun _ h => h, fun _ _ z => z⟩
theorem Lift.trans {H H1 H2 : Hp} {S S1 S2 : AS} (x : Lift H S H1 S1) (y : Lift H1 S1 H2 S2) : Lift H S H2 S2 := ⟨fun h => y.ob (x.ob h), y.live, fun a h => y.sub a (x.sub a h), x.same.trans y.same⟩
theorem Lift.then {H H1 H2 : Hp} {S S1 : AS} (x : Lift H S H1 S1) (k : Same H1 H2) : Lift H S H2 S1 := ⟨fun h => (x.ob h).same k, Lv.same k x.live, x.sub, x.same.trans k⟩
theorem Lift.new {H : Hp} {S : AS} {D : Addr} {o : HO} (l : Lv H S) (hD : H D = none) : Lift H S (upd H D o) (And1 S D) :=
  ⟨fun h => (h.add hD).put (.inr rfl), l.add hD, fun a h => .inl h, same_upd hD⟩
theorem Lift.obs {H H1 : Hp} {S S1 : AS} (x : Lift H S H1 S1) : ∀ {us : List V} {es : List Dt}, Ocs H S us es → Ocs H1 S1 us es
  | _, _, .nil => .nil
  | _, _, .cons h t => .cons (x.ob h) (Lift.obs x t)
/-- an expression that comes to the datum d, nothing changed -/
def DE (te : TE) (σ : L2.St) (H : Hp) (S : AS) (d : Dt) : Prop := ∀ (H1 : Hp) (S1 : AS) (Q : VK), Lift H S H1 S1 → (∀ v H2, Same H1 H2 → Oc H2 S1 v d → Q v H2) → te σ H1 Q
def DT (tt : TT) (σ : L2.St) (H : Hp) (S : AS) (b : Bool) : Prop := ∀ (H1 : Hp) (S1 : AS) (Q : Bool → Hp → Prop), Lift H S H1 S1 → (∀ H2, Same H1 H2 → Q b H2) → tt σ H1 Q
theorem DE.lift {te : TE} {σ : L2.St} {H H1 : Hp} {S S1 : AS} {d : Dt} (h : DE te σ H S d) (x : Lift H S H1 S1) : DE te σ H1 S1 d := fun H2 S2 Q y q => h H2 S2 Q (x.trans y) q
theorem DT.lift {te : TT} {σ : L2.St} {H H1 : Hp} {S S1 : AS} {d : Bool} (h : DT te σ H S d) (x : Lift H S H1 S1) : DT te σ H1 S1 d := fun H2 S2 Q y q => h H2 S2 Q (x.trans y) q
theorem DE.go {te : TE} {σ : L2.St} {H : Hp} {S : AS} {d : Dt} {Q : VK} (h : DE te σ H S d) (l : Lv H S) (q : ∀ v H2, Same H H2 → Oc H2 S v d → Q v H2) : te σ H Q := h H S Q (Lift.refl l) q
section
variable {σ : L2.St} {H : Hp} {S : AS} {K : PySem.W.Frag}
theorem D_var {i : Nat} {v : V} {d : Dt} (h : σ[i]? = some (some v)) (o : Oc H S v d) : DE (tVar i) σ H S d := fun H1 S1 Q x q => ⟨v, h, q _ _ (fun _ _ z => z) (x.ob o)⟩
theorem D_int (i : Int) : DE (tC (.int i)) σ H S (.int i) := fun H1 S1 Q x q => q _ _ (fun _ _ z => z) (.int i)
theorem D_str (i : Str) : DE (tC (.str i)) σ H S (.str i) := fun H1 S1 Q x q => q _ _ (fun _ _ z => z) (.str i)
theorem D_eq {te : TE} {d e : Dt} (h : DE te σ H S d) (z : d = e) : DE te σ H S e := z ▸ h
theorem D_add {ta tb : TE} {i j : Int} (ha : DE ta σ H S (.int i)) (hb : DE tb σ H S (.int j)) : DE (tOp (rI0 fun i j => .int (i + j)) ta tb) σ H S (.int (i + j)) := fun H1 S1 Q x q =>
  ha H1 S1 _ x fun v H2 k o => (hb.lift (x.then k)).go (Lv.same k x.live) fun u H3 k3 o3 => by
    rw [o.int_inv, o3.int_inv]
    exact ⟨i, j, rfl, rfl, q _ _ (k.trans k3) (.int _)⟩
theorem D_sub {ta tb : TE} {i j : Int} (ha : DE ta σ H S (.int i)) (hb : DE tb σ H S (.int j)) : DE (tOp (rI0 fun i j => .int (i - j)) ta tb) σ H S (.int (i - j)) := fun H1 S1 Q x q =>
  ha H1 S1 _ x fun v H2 k o => (hb.lift (x.then k)).go (Lv.same k x.live) fun u H3 k3 o3 => by
    rw [o.int_inv, o3.int_inv]
    exact ⟨i, j, rfl, rfl, q _ _ (k.trans k3) (.int _)⟩
/-- arguments -/
def DA (ta : TA) (σ : L2.St) (H : Hp) (S : AS) (ds : List Dt) : Prop := ∀ (H1 : Hp) (S1 : AS) (Q : List V → Hp → Prop), Lift H S H1 S1 → (∀ vs H2, Same H1 H2 → Ocs H2 S1 vs ds → Q vs H2) → ta σ H1 Q
theorem D_nil : DA tNil σ H S [] := fun H1 S1 Q x q => q _ _ (fun _ _ z => z) .nil
theorem D_cons {te : TE} {ta : TA} {d : Dt} {ds : List Dt} (h : DE te σ H S d) (t : DA ta σ H S ds) : DA (tCons te ta) σ H S (d :: ds) := fun H1 S1 Q x q =>
  h H1 S1 _ x fun v H2 k o => t H2 S1 _ (x.then k) fun vs H3 k3 o3 => q _ _ (k.trans k3) (.cons (o.same k3) o3)
/-- (a, ..) -/
theorem D_tup {ta : TA} {ds : List Dt} (h : DA ta σ H S ds) (hz : ds.length ≤ 1000) : DE (tTupF ta) σ H S (.tup true ds) := fun H1 S1 Q x q =>
  h H1 S1 _ x fun vs H2 k o => ⟨Nat.le_trans (show _ ≤ 1000 by rw [o.len]; exact hz) (by decide), fun p H3 hp k3 tp g => q _ _ (k.trans k3) (.tup tp (Lv.out (Lv.same k x.live) hp) (o.same k3))⟩
/-- [a, ..] -/
theorem D_lst {ta : TA} {ds : List Dt} (h : DA ta σ H S ds) (hz : ds.length ≤ 1000) : DE (tLst ta) σ H S (.lst ds) := fun H1 S1 Q x q =>
  h H1 S1 _ x fun vs H2 k o => ⟨Nat.le_trans (show _ ≤ 1000 by rw [o.len]; exact hz) (by decide), fun p hp => q _ _ (k.trans (same_upd hp)) (.lst upd_same (Lv.out (Lv.same k x.live) hp) (o.same (same_upd hp)))⟩
/-- t + u of tuples -/
theorem D_cat {ta tb : TE} {ds es : List Dt} (ha : DE ta σ H S (.tup true ds)) (hb : DE tb σ H S (.tup true es)) (hz : ds.length + es.length ≤ 1000) : DE (tOp (rCatF K) ta tb) σ H S (.tup true (ds ++ es)) := fun H1 S1 Q x q =>
  ha H1 S1 _ x fun v H2 k o => (hb.lift (x.then k)).go (Lv.same k x.live) fun u H3 k3 o3 => by
    obtain ⟨a, xs, rfl, ea, na, oa⟩ := o.tup_inv
    obtain ⟨b, ys, rfl, eb, nb, ob⟩ := o3.tup_inv
    have la := oa.len
    have lb := ob.len
    have oa' := oa.same k3
    refine ⟨a, b, xs, ys, rfl, rfl, (ea.same k3).sq, eb.sq, Nat.le_trans (show _ ≤ 1000 by omega) (by decide), fun e => ?_, fun e e2 => ?_, fun e e2 p H4 hp k4 tp g => ?_⟩
    · subst e
      cases oa
      exact q _ _ (k.trans k3) (.tup eb nb ob)
    · subst e2
      cases ob
      exact q _ _ (k.trans k3) (by rw [List.append_nil]; exact .tup (ea.same k3) na oa')
    · exact q _ _ ((k.trans k3).trans k4) (.tup tp (Lv.out (Lv.same k3 (Lv.same k x.live)) hp) ((oa'.append ob).same k4))
/-- tuple(a list) -/
theorem D_tupleOf {ta : TE} {ds : List Dt} (ha : DE ta σ H S (.lst ds)) : DE (tTupOfF K ta) σ H S (.tup true ds) := fun H1 S1 Q x q =>
  ha H1 S1 _ x fun v H2 k o => by
    obtain ⟨a, xs, rfl, ea, na, oa⟩ := o.lst_inv
    exact ⟨a, xs, rfl, SqL.of ea, fun p H3 hp k3 tp g => q _ _ (k.trans k3) (.tup tp (Lv.out (Lv.same k x.live) hp) (oa.same k3))⟩
/-! ### comprehensions -/
/-- one turn: what is put to the list, if anything is -/
def Turn1 (g : TG) (tt : TT) (te : TE) (vs : List Nat) (σ : L2.St) (x : V) (H : Hp) (S : AS) (r : Option Dt) : Prop :=
  ∀ (C : V → Hp → Prop) (N : Hp → Prop), (∀ y d H4, r = some d → Same H H4 → Oc H4 S y d → C y H4) → (∀ H4, r = none → Same H H4 → N H4) →
    g x (wipe σ vs) H fun σ2 H2 => wipe σ2 vs = wipe σ vs ∧ tt σ2 H2 fun b H3 => if b = true then te σ2 H3 C else N H3
theorem turn_map {te : TE} {i : Nat} {x : V} {d : Dt} (hw : wipe ((wipe σ [i]).set i (some x)) [i] = wipe σ [i]) (l : Lv H S) (h : DE te ((wipe σ [i]).set i (some x)) H S d) : Turn1 (gName i) tYes te [i] σ x H S (some d) := fun C N hc hn =>
  ⟨hw, h.go l fun v H2 k o => hc _ _ _ rfl k o⟩
theorem turn_test {te : TE} {tt : TT} {i : Nat} {x : V} {d : Dt} {b : Bool} (hw : wipe ((wipe σ [i]).set i (some x)) [i] = wipe σ [i]) (l : Lv H S) (ht : DT tt ((wipe σ [i]).set i (some x)) H S b) (h : b = true → DE te ((wipe σ [i]).set i (some x)) H S d) :
    Turn1 (gName i) tt te [i] σ x H S (if b = true then some d else none) := fun C N hc hn =>
  ⟨hw, ht H S _ (Lift.refl l) fun H2 k => by
    cases b with
    | true => exact ((h rfl).lift ((Lift.refl l).then k)).go (Lv.same k l) fun v H3 k3 o => hc _ _ _ rfl (k.trans k3) o
    | false => exact hn _ rfl k⟩
/-- what is made so far stands at D -/
structure Made (H2 : Hp) (S : AS) (D : Addr) (ds : List Dt) (H' : Hp) : Prop where
  same : Same H2 H'
  acc : ∃ vs, H' D = some (.lst vs) ∧ Ocs H' (And1 S D) vs ds
theorem Made.nil {H2 : Hp} {D : Addr} (hD : H2 D = none) : Made H2 S D [] (upd H2 D (.lst [])) := ⟨same_upd hD, [], upd_same, .nil⟩
theorem Made.lift {H2 H' : Hp} {D : Addr} {ds : List Dt} (l : Lv H2 S) (hD : H2 D = none) (m : Made H2 S D ds H') : Lift H2 S H' (And1 S D) := by
  refine ⟨fun h => (h.add hD).same m.same, fun a ha z => ?_, fun a h => .inl h, m.same⟩
  rcases ha with ha | ha
  · exact Lv.same m.same l a ha z
  · obtain ⟨vs, e, _⟩ := m.acc
    rw [ha, e] at z; cases z
theorem Made.step {H2 H' H4 : Hp} {D : Addr} {ds : List Dt} {y : V} {d : Dt} (hD : H2 D = none) (m : Made H2 S D ds H') (k : Same H' H4) (o : Oc H4 (And1 S D) y d) (hz : ds.length < 1000000) :
    ∃ acc, H4 D = some (.lst acc) ∧ acc.length < sizeLine ∧ Made H2 S D (ds ++ [d]) (upd H4 D (.lst (acc ++ [y]))) := by
  obtain ⟨vs, e, oc⟩ := m.acc
  refine ⟨vs, k _ _ e, Nat.lt_of_lt_of_le (show _ < 1000000 by rw [oc.len]; exact hz) (by decide), fun b o hb => ?_, _, upd_same, ((oc.same k).snoc o).put (.inr rfl)⟩
  rw [upd_ne (ne_of_none hb hD)]
  exact k _ _ (m.same _ _ hb)
theorem Made.done {H2 H' : Hp} {D : Addr} {ds : List Dt} (l : Lv H2 S) (hD : H2 D = none) (m : Made H2 S D ds H') : Oc H' S (.ref D) (.lst ds) := by
  obtain ⟨vs, e, oc⟩ := m.acc
  exact .lst e (Lv.out l hD) (oc.sub fun a h => .inl h)
theorem fm_len (ds : List Dt) (r : Dt → Option Dt) (i : Nat) (h : ds.length ≤ 999999) : ((ds.take i).filterMap r).length < 1000000 := by
  have := List.length_filterMap_le r (ds.take i)
  have := List.length_take_le i ds
  have := List.length_take_le' i ds
  omega
theorem fm_succ {ds : List Dt} {r : Dt → Option Dt} {i : Nat} {d : Dt} (h : ds[i]? = some d) : (ds.take (i + 1)).filterMap r = (ds.take i).filterMap r ++ (r d).toList := by
  rw [List.take_add_one, h, List.filterMap_append]
  show _ ++ List.filterMap r [d] = _
  cases e : r d <;> simp [List.filterMap, e]
section
variable {g : TG} {tt : TT} {te : TE} {vs : List Nat} {ds : List Dt} {r : Dt → Option Dt}
theorem D_lcL {tl : TE} (hl : DE tl σ H S (.lst ds)) (hz : ds.length ≤ 999999) (hs : ∀ v d H1 S1, d ∈ ds → Lift H S H1 S1 → Oc H1 S1 v d → Turn1 g tt te vs σ v H1 S1 (r d)) : DE (tLc (iList K tl) g tt te vs) σ H S (.lst (ds.filterMap r)) := fun H1 S1 Q x q =>
  hl H1 S1 _ x fun v H2 k o => by
    obtain ⟨a, xs, rfl, ea, na, oa⟩ := o.lst_inv
    have L2 := Lv.same k x.live
    refine ⟨a, rfl, ⟨_, SqL.of ea⟩, fun D hD => ?_⟩
    refine lc_list (K := K) (a := a) (xs := xs) (fun i H' => Made H2 S1 D ((ds.take i).filterMap r) H') (Made.nil hD) (fun i H' _ m => SqL.of (m.same _ _ ea)) ?_ ?_
    · intro i y H' hy m
      obtain ⟨d, hd, od⟩ := oa.get hy
      have lf := m.lift L2 hD
      refine hs y d H' _ (List.mem_of_getElem? hd) ((x.then k).trans lf) (lf.ob od) _ _ (fun z e H4 er k4 o4 => ?_) fun H4 er k4 => ?_
      · obtain ⟨acc, e1, e2, m2⟩ := m.step hD k4 o4 (fm_len ds r i hz)
        refine ⟨acc, e1, e2, ?_⟩
        rw [fm_succ hd, er]; exact m2
      · rw [fm_succ hd, er]
        show Made _ _ _ (_ ++ []) _
        rw [List.append_nil]
        obtain ⟨vs, e, oc⟩ := m.acc
        exact ⟨m.same.trans k4, vs, k4 _ _ e, oc.same k4⟩
    · intro H' m
      rw [oa.len, List.take_length] at m
      exact q _ _ (k.trans m.same) (m.done L2 hD)
theorem D_lcT {tl : TE} {z : Bool} (hl : DE tl σ H S (.tup z ds)) (hz : ds.length ≤ 999999) (hs : ∀ v d H1 S1, d ∈ ds → Lift H S H1 S1 → Oc H1 S1 v d → Turn1 g tt te vs σ v H1 S1 (r d)) : DE (tLc (iTup K tl) g tt te vs) σ H S (.lst (ds.filterMap r)) := fun H1 S1 Q x q =>
  hl H1 S1 _ x fun v H2 k o => by
    obtain ⟨a, xs, rfl, ea, na, oa⟩ := o.tup_inv
    have L2 := Lv.same k x.live
    refine ⟨a, rfl, ⟨_, ea.sq⟩, fun D hD => ?_⟩
    refine lc_tup (K := K) (a := a) (xs := xs) (fun i H' => Made H2 S1 D ((ds.take i).filterMap r) H') (Made.nil hD) (fun i H' _ m => (ea.same m.same).sq) ?_ ?_
    · intro i y H' hy m
      obtain ⟨d, hd, od⟩ := oa.get hy
      have lf := m.lift L2 hD
      refine hs y d H' _ (List.mem_of_getElem? hd) ((x.then k).trans lf) (lf.ob od) _ _ (fun z e H4 er k4 o4 => ?_) fun H4 er k4 => ?_
      · obtain ⟨acc, e1, e2, m2⟩ := m.step hD k4 o4 (fm_len ds r i hz)
        refine ⟨acc, e1, e2, ?_⟩
        rw [fm_succ hd, er]; exact m2
      · rw [fm_succ hd, er]
        show Made _ _ _ (_ ++ []) _
        rw [List.append_nil]
        obtain ⟨vs, e, oc⟩ := m.acc
        exact ⟨m.same.trans k4, vs, k4 _ _ e, oc.same k4⟩
    · intro H' m
      rw [oa.len, List.take_length] at m
      exact q _ _ (k.trans m.same) (m.done L2 hD)
end
/-- the ints below n -/
def upto (n : Nat) : List Dt := (List.range n).map fun i => Dt.int (i : Nat)
theorem upto_get {n i : Nat} (h : i < n) : (upto n)[i]? = some (.int (i : Nat)) := by
  unfold upto
  rw [List.getElem?_map, List.getElem?_range h]; rfl
theorem upto_len (n : Nat) : (upto n).length = n := by unfold upto; rw [List.length_map, List.length_range]
theorem D_lcR {g : TG} {tt : TT} {te tn : TE} {vs : List Nat} {n : Nat} {r : Dt → Option Dt} (hn : DE tn σ H S (.int (n : Nat))) (hz : n ≤ 999999) (hs : ∀ (i : Nat) H1 S1, i < n → Lift H S H1 S1 → Turn1 g tt te vs σ (.int (i : Nat)) H1 S1 (r (.int (i : Nat)))) : DE (tLc (iRng1 (tCons tn tNil)) g tt te vs) σ H S (.lst ((upto n).filterMap r)) := fun H1 S1 Q x q =>
  hn H1 S1 _ x fun v H2 k o => by
    have e := o.int_inv
    subst e
    have L2 := Lv.same k x.live
    refine ⟨_, rfl, by omega, by omega, fun D hD => ?_⟩
    have et : ((n : Nat) : Int).toNat = n := Int.toNat_natCast n
    rw [et]
    refine lc_range (lo := 0) (n := n) (fun i H' => Made H2 S1 D (((upto n).take i).filterMap r) H') (Made.nil hD) ?_ ?_
    · intro i H' hi m
      have lf := m.lift L2 hD
      rw [Int.zero_add]
      have hd := upto_get hi
      refine hs i H' _ hi ((x.then k).trans lf) _ _ (fun z e H4 er k4 o4 => ?_) fun H4 er k4 => ?_
      · obtain ⟨acc, e1, e2, m2⟩ := m.step hD k4 o4 (fm_len _ r i (by rw [upto_len]; exact hz))
        refine ⟨acc, e1, e2, ?_⟩
        rw [fm_succ hd, er]; exact m2
      · rw [fm_succ hd, er]
        show Made _ _ _ (_ ++ []) _
        rw [List.append_nil]
        obtain ⟨vs, e, oc⟩ := m.acc
        exact ⟨m.same.trans k4, vs, k4 _ _ e, oc.same k4⟩
    · intro H' m
      have e2 : (upto n).take n = upto n := List.take_of_length_le (by rw [upto_len]; exact Nat.le_refl _)
      rw [e2] at m
      exact q _ _ (k.trans m.same) (m.done L2 hD)
end
end Lc
namespace Lc
open PySem PySem.Spec PyProof.Rows L2 RZ PySem.W
section
variable {σ : L2.St} {H : Hp} {S : AS} {K : PySem.W.Frag}
/-! ### two clauses -/
theorem fm2_len (ds : List Dt) (f : Dt → List Dt) (h : ∀ d ∈ ds, (f d).length ≤ 500) : ∀ i, i ≤ 1000 → ((ds.take i).flatMap f).length ≤ i * 500
  | 0, _ => by simp
  | i + 1, hi => by
    have ih := fm2_len ds f h i (by omega)
    rw [List.take_add_one, List.flatMap_append, List.length_append]
    cases e : ds[i]? with
    | none => simp only [Option.toList_none, List.flatMap_nil, List.length_nil]; omega
    | some d =>
      have := h d (List.mem_of_getElem? e)
      simp only [Option.toList_some, List.flatMap_cons, List.flatMap_nil, List.append_nil]
      omega
theorem fm2_succ {ds : List Dt} {f : Dt → List Dt} {i : Nat} {d : Dt} (h : ds[i]? = some d) : (ds.take (i + 1)).flatMap f = (ds.take i).flatMap f ++ f d := by
  rw [List.take_add_one, h, List.flatMap_append]
  simp
theorem D_lc2LR {i0 i1 : Nat} {tt1 : TT} {te tl tn : TE} {ds : List Dt} {n : Dt → Nat} {r : Dt → Dt → Option Dt} (hl : DE tl σ H S (.lst ds)) (hz : ds.length ≤ 1000) (hz2 : ∀ d ∈ ds, n d ≤ 500)
    (hw : ∀ v : V, wipe ((wipe σ [i0, i1]).set i0 (some v)) [i0, i1] = wipe σ [i0, i1])
    (hn : ∀ v d H1 S1, d ∈ ds → Lift H S H1 S1 → Oc H1 S1 v d → DE tn ((wipe σ [i0, i1]).set i0 (some v)) H1 S1 (.int (n d : Nat)))
    (hs : ∀ v d H1 S1 (j : Nat), d ∈ ds → j < n d → Lift H S H1 S1 → Oc H1 S1 v d → Turn1 (gName i1) tt1 te [i1] ((wipe σ [i0, i1]).set i0 (some v)) (.int (j : Nat)) H1 S1 (r d (.int (j : Nat)))) :
    DE (tLc2 (iList K tl) (gName i0) tYes (iRng1 (tCons tn tNil)) (gName i1) tt1 te [i0, i1] [i1]) σ H S (.lst (ds.flatMap fun d => (upto (n d)).filterMap (r d))) := fun H1 S1 Q x q =>
  hl H1 S1 _ x fun v H2 k o => by
    obtain ⟨a, xs, rfl, ea, na, oa⟩ := o.lst_inv
    have L2 := Lv.same k x.live
    have hf : ∀ d ∈ ds, ((upto (n d)).filterMap (r d)).length ≤ 500 := fun d hd => by
      have h1 := List.length_filterMap_le (r d) (upto (n d))
      have h2 := hz2 d hd
      rw [upto_len] at h1
      omega
    refine ⟨a, rfl, ⟨_, SqL.of ea⟩, fun D hD => ?_⟩
    refine ⟨fun i m H' => m = xs.length - i ∧ i ≤ xs.length ∧ Made H2 S1 D ((ds.take i).flatMap fun d => (upto (n d)).filterMap (r d)) H', ⟨_, rfl, Nat.zero_le _, Made.nil hD⟩, ?_⟩
    rintro i m H' ⟨rfl, hi, md⟩
    by_cases lt : i < xs.length
    · have hy : xs[i]? = some xs[i] := List.getElem?_eq_getElem lt
      obtain ⟨d, hd, od⟩ := oa.get hy
      have dm := List.mem_of_getElem? hd
      refine .inr ⟨⟨xs, _, SqL.of (md.same _ _ ea), hy⟩, fun H3 => Made H2 S1 D ((ds.take (i + 1)).flatMap fun d => (upto (n d)).filterMap (r d)) H3, fun H3 h3 => ⟨_, by omega, rfl, lt, h3⟩, ?_⟩
      rintro y H3 ⟨rfl, fy⟩
      have ey : y = xs[i] := Option.some.inj ((fy _ (SqL.of (md.same _ _ ea))).symm.trans hy)
      subst ey
      have lf := md.lift L2 hD
      have lf2 := (x.then k).trans lf
      refine ⟨hw _, (hn _ d _ _ dm lf2 (lf.ob od)).go lf2.live fun u H4 k4 o4 => ?_⟩
      have eu := o4.int_inv
      subst eu
      have hb := hz2 d dm
      refine ⟨_, rfl, by omega, by omega, ?_⟩
      have et : ((n d : Nat) : Int).toNat = n d := Int.toNat_natCast _
      rw [et]
      refine ⟨fun j k H' => k = n d - j ∧ j ≤ n d ∧ Made H2 S1 D (((ds.take i).flatMap fun d => (upto (n d)).filterMap (r d)) ++ ((upto (n d)).take j).filterMap (r d)) H', ⟨_, rfl, Nat.zero_le _, ?_⟩, ?_⟩
      · obtain ⟨vs, e, oc⟩ := md.acc
        refine ⟨md.same.trans k4, vs, k4 _ _ e, ?_⟩
        simpa using oc.same k4
      rintro j kk H5 ⟨rfl, hj, md5⟩
      by_cases jl : j < n d
      · refine .inr ⟨jl, fun H6 => Made H2 S1 D (((ds.take i).flatMap fun d => (upto (n d)).filterMap (r d)) ++ ((upto (n d)).take (j + 1)).filterMap (r d)) H6, fun H6 h6 => ⟨_, by omega, rfl, jl, h6⟩, ?_⟩
        rintro y H6 ⟨rfl, rfl⟩
        rw [Int.zero_add]
        have lf5 := md5.lift L2 hD
        have hg := upto_get jl
        refine hs _ d _ _ j dm jl ((x.then k).trans lf5) (lf5.ob od) _ _ (fun z e H7 er k7 o7 => ?_) fun H7 er k7 => ?_
        · have sz : (((ds.take i).flatMap fun d => (upto (n d)).filterMap (r d)) ++ ((upto (n d)).take j).filterMap (r d)).length < 1000000 := by
            have h1 := fm2_len ds _ hf i (by rw [oa.len] at lt; omega)
            have h2 := List.length_filterMap_le (r d) ((upto (n d)).take j)
            have h3 := List.length_take_le j (upto (n d))
            rw [List.length_append]
            have h4 : i < 1000 := by rw [oa.len] at lt; omega
            have h5 : i * 500 ≤ 1000 * 500 := Nat.mul_le_mul_right _ (by omega)
            omega
          obtain ⟨acc, e1, e2, m2⟩ := md5.step hD k7 o7 sz
          refine ⟨acc, e1, e2, ?_⟩
          rw [fm_succ hg, er, ← List.append_assoc]; exact m2
        · rw [fm_succ hg, er]
          show Made _ _ _ (_ ++ (_ ++ [])) _
          rw [List.append_nil]
          obtain ⟨vs, e, oc⟩ := md5.acc
          exact ⟨md5.same.trans k7, vs, k7 _ _ e, oc.same k7⟩
      · have ej : j = n d := by omega
        subst ej
        refine .inl ⟨Nat.le_refl _, ?_⟩
        have e2 : (upto (n d)).take (n d) = upto (n d) := List.take_of_length_le (by rw [upto_len]; exact Nat.le_refl _)
        rw [e2] at md5
        rw [fm2_succ hd]; exact md5
    · have ei : i = xs.length := by omega
      subst ei
      rw [oa.len, List.take_length] at md
      exact .inl ⟨⟨xs, SqL.of (md.same _ _ ea), Nat.le_refl _⟩, q _ _ (k.trans md.same) (md.done L2 hD)⟩
end
/-! ### data that can be compared -/
mutual
def pd : Dt → PyData
  | .non => .none
  | .bl b => .bool b
  | .int i => .int i
  | .str s => .str s
  | .lst ds => .list (pdAll ds)
  | .tup _ ds => .tuple (pdAll ds)
  | .dic => .none
def pdAll : List Dt → List PyData
  | [] => []
  | d :: r => pd d :: pdAll r
end
theorem pdAll_map : ∀ ds : List Dt, pdAll ds = ds.map pd
  | [] => rfl
  | d :: r => by rw [pdAll, pdAll_map r]; rfl
mutual
theorem Oc.dp {K : PySem.W.Frag} {H : Hp} {S : AS} : ∀ {v : V} {d : Dt}, Oc H S v d → Dp K H v (pd d)
  | _, _, .non => .non
  | _, _, .bl b => .bl b
  | _, _, .int i => .int i
  | _, _, .str s => .str s
  | _, _, .lst e ne all => .lst (SqL.of e) (Ocs.dp all)
  | _, _, .tup e ne all => .tup e.sq (Ocs.dp all)
theorem Ocs.dp {K : PySem.W.Frag} {H : Hp} {S : AS} : ∀ {vs : List V} {ds : List Dt}, Ocs H S vs ds → DpAll K H vs (pdAll ds)
  | _, _, .nil => .nil
  | _, _, .cons h t => .cons (Oc.dp h) (Ocs.dp t)
end
def minL : List Int → Int
  | [] => 0
  | x :: r => r.foldl min x
def maxL : List Int → Int
  | [] => 0
  | x :: r => r.foldl max x
/-! ### min of a list, max of a tuple -/
def rMinD (K : PySem.W.Frag) : List V → Hp → VK → Prop := fun vs H Q => ∃ (a : Addr) (xs : List V) (d : PyData) (ds : List PyData), vs = [.ref a] ∧ SqL K H a xs ∧ DpAll K H xs (d :: ds) ∧ AlikeAll (d :: ds) ∧ PyData.depthAll (d :: ds) ≤ 16 ∧
  ∀ (i : Nat) (v : V), xs[i]? = some v → (d :: ds)[i]? = some (minD d ds) → Q v H
theorem dp_at {K : PySem.W.Frag} {H : Hp} : ∀ {vs : List V} {ds : List PyData} {i : Nat} {v : V}, DpAll K H vs ds → vs[i]? = some v → ∃ d, ds[i]? = some d ∧ Dp K H v d
  | _, _, _, _, .nil, e => by simp at e
  | _, _, 0, _, .cons h _, e => by
    have e := Option.some.inj (show some _ = some _ from e)
    subst e; exact ⟨_, rfl, h⟩
  | _, _, i + 1, x, .cons _ t, e => dp_at (i := i) t (by simpa using e)
theorem vals_at : ∀ {vs : List V} {us : List Value} {i : Nat} {u : Value}, Vals vs us → us[i]? = some u → ∃ v, vs[i]? = some v ∧ RelV v u
  | _, _, _, _, .nil, e => by simp at e
  | _, _, 0, _, .cons h _, e => by
    have e := Option.some.inj (show some _ = some _ from e)
    subst e; exact ⟨_, rfl, h⟩
  | _, _, i + 1, x, .cons _ t, e => vals_at (i := i) t (by simpa using e)
theorem cr_minD {X : Cx} (K : PySem.W.Frag) (hc : X.calm = true) (hu : X.A.units + 64 < cLine) (h : X.K = K := by rfl) : CallR X (.builtin "min") (rMinD K) := by
  subst h
  intro pins s σ H vs us Q I r h
  obtain ⟨a, xs, d, ds, rfl, hs, hd, al, dp, q⟩ := h
  obtain ⟨its, rv, pl, hz⟩ := I.list hs
  obtain ⟨as, ra⟩ := Dp.readsAll I _ _ _ hd rv
  rw [Vals.ref1 r]
  refine min_list_data (I.ok.hd hc) pl.isList (by simpa using ra) al (by omega) fun i v h' tk bs hv hr hk => ?_
  have hv' : its[i]? = some v := by rw [← hv]; simp
  obtain ⟨y, hy, ry⟩ := vals_at rv hv'
  obtain ⟨e, he, de⟩ := dp_at hd hy
  obtain ⟨cs, re⟩ := Dp.reads I _ _ _ de ry
  have ee := (PySem.Reads.unique (reads_keeps hk re) _ _ hr).1
  subst ee
  exact ⟨y, H, I.kept (t' := tk) hk, ry, q i y hy he⟩
def rMaxT (K : PySem.W.Frag) : List V → Hp → VK → Prop := fun vs H Q => ∃ (a : Addr) (n : Int) (ns : List Int), vs = [.ref a] ∧ SqT K H a ((n :: ns).map V.int) ∧ Q (.int (ns.foldl max n)) H
theorem alike_int_all (ns : List Int) : AlikeAll (ns.map PyData.int) := by
  refine ⟨fun x hx y hy => ?_, fun x hx => ?_⟩
  · obtain ⟨i, _, rfl⟩ := List.mem_map.mp hx
    obtain ⟨j, _, rfl⟩ := List.mem_map.mp hy
    rfl
  · obtain ⟨i, _, rfl⟩ := List.mem_map.mp hx
    exact fun z => nomatch z
theorem dp_ints {K : PySem.W.Frag} {H : Hp} : ∀ ns : List Int, DpAll K H (ns.map V.int) (ns.map PyData.int)
  | [] => .nil
  | n :: r => .cons (.int n) (dp_ints r)
theorem cr_maxT {X : Cx} (K : PySem.W.Frag) (hc : X.calm = true) (hu : X.A.units + 64 < cLine) (h : X.K = K := by rfl) : CallR X (.builtin "max") (rMaxT K) := by
  subst h
  intro pins s σ H vs us Q I r h
  obtain ⟨a, n, ns, rfl, hs, q⟩ := h
  obtain ⟨its, rv, pl, hz⟩ := I.tuple hs
  obtain ⟨as, ra⟩ := Dp.readsAll I ((n :: ns).map .int) _ _ (dp_ints _) rv
  rw [Vals.ref1 r]
  have dz : PyData.depthAll (PyData.int n :: ns.map PyData.int) = 0 := depth_ints (n :: ns)
  refine max_tuple_data (x := .int n) (xs := ns.map .int) (I.ok.hd hc) pl (by simpa using ra) (alike_int_all (n :: ns)) (by rw [dz]; omega) fun i v h' tk bs hv hr hk => ?_
  rw [maxD_ints] at hr
  obtain ⟨t, rfl, _⟩ := reads_int_inv hr
  exact ⟨.int _, H, I.kept (t' := tk) hk, ⟨t, rfl⟩, q⟩
/-! ### rows of ints -/
def intT' (ns : List Int) : Dt := .tup true (ns.map Dt.int)
def intP (ns : List Int) : PyData := .tuple (ns.map PyData.int)
theorem pd_intT (ns : List Int) : pd (intT' ns) = intP ns := by
  show PyData.tuple (pdAll (ns.map Dt.int)) = _
  rw [pdAll_map, List.map_map]; rfl
def ltI : List Int → List Int → Bool
  | [], [] => false
  | [], _ :: _ => true
  | _ :: _, [] => false
  | x :: r, y :: t => decide (x < y) || (decide (x = y) && ltI r t)
theorem toks_intP (ns : List Int) : keyToks (intP ns) = keyToksAll (ns.map PyData.int) := by unfold intP; rw [keyToks]
theorem lt_toks : ∀ a b : List Int, PyProof.Rows.lexLt itemOrd (keyToksAll (a.map PyData.int)) (keyToksAll (b.map PyData.int)) = ltI a b
  | [], [] => by decide
  | [], y :: t => by
    rw [List.map_nil, List.map_cons, toks_all_cons, keyToksAll, lex_diff (O := itemOrd) (by intro z; cases z)]
    rfl
  | x :: r, [] => by
    rw [List.map_nil, List.map_cons, toks_all_cons, keyToksAll, lex_diff (O := itemOrd) (by intro z; cases z)]
    rfl
  | x :: r, y :: t => by
    rw [List.map_cons, List.map_cons, toks_all_cons, toks_all_cons, lex_self (O := itemOrd), keyToks, keyToks]
    show PyProof.Rows.lexLt itemOrd (Sum.inl x :: keyToksAll (r.map PyData.int)) (Sum.inl y :: keyToksAll (t.map PyData.int)) = _
    by_cases e : x = y
    · subst e
      rw [lex_self (O := itemOrd), lt_toks r t]
      simp [ltI]
    · rw [lex_diff (O := itemOrd) (fun z => e (Sum.inl.inj z))]
      show decide (x < y) = _
      simp [ltI, e]
theorem lt_rows (a b : List Int) : dataLt (intP a) (intP b) = ltI a b := by
  unfold dataLt
  rw [toks_intP, toks_intP, lt_toks]
def minR (x : List Int) (xs : List (List Int)) : List Int := xs.foldl (fun a y => if ltI y a then y else a) x
theorem min_rows (x : List Int) : ∀ xs : List (List Int), minD (intP x) (xs.map intP) = intP (minR x xs) := by
  intro xs
  unfold minD minR
  induction xs generalizing x with
  | nil => rfl
  | cons y r ih =>
    rw [List.map_cons, List.foldl_cons, List.foldl_cons, lt_rows]
    by_cases h : ltI y x = true
    · rw [if_pos h, if_pos h]; exact ih y
    · rw [if_neg h, if_neg h]; exact ih x
theorem alike_rows (rows : List (List Int)) : AlikeAll (rows.map intP) := by
  refine ⟨fun x hx y hy => ?_, fun x hx => ?_⟩
  · obtain ⟨i, _, rfl⟩ := List.mem_map.mp hx
    obtain ⟨j, _, rfl⟩ := List.mem_map.mp hy
    show alike (.tuple _) (.tuple _) = true
    rw [alike]; exact alike_ints i j
  · obtain ⟨i, _, rfl⟩ := List.mem_map.mp hx
    exact fun z => nomatch z
theorem depth_rows : ∀ rows : List (List Int), PyData.depthAll (rows.map intP) ≤ 1
  | [] => by simp [PyData.depthAll]
  | x :: r => by
    rw [List.map_cons, PyData.depthAll]
    have h := depth_rows r
    have h2 : PyData.depth (intP x) = 1 := by unfold intP; rw [PyData.depth, depth_ints]
    omega
theorem intP_inj {a b : List Int} (h : intP a = intP b) : a = b := by
  have h1 := PyData.tuple.inj h
  induction a generalizing b with
  | nil =>
    cases b with
    | nil => rfl
    | cons y t => simp at h1
  | cons x r ih =>
    cases b with
    | nil => simp at h1
    | cons y t =>
      simp only [List.map_cons, List.cons.injEq, PyData.int.injEq] at h1
      rw [h1.1, ih (by unfold intP; rw [h1.2]) h1.2]
theorem ocs_rows_dp {K : PySem.W.Frag} {H : Hp} {S : AS} {xs : List V} {rows : List (List Int)} (h : Ocs H S xs (rows.map intT')) : DpAll K H xs (rows.map intP) := by
  have := h.dp (K := K)
  rw [pdAll_map, List.map_map] at this
  have e : (rows.map (pd ∘ intT')) = rows.map intP := List.map_congr_left fun x _ => pd_intT x
  rw [e] at this
  exact this
theorem D_minRows {σ : L2.St} {H : Hp} {S : AS} {K : PySem.W.Frag} {tl : TE} {x : List Int} {xs : List (List Int)} (hl : DE tl σ H S (.lst ((x :: xs).map intT'))) : DE (tCB (rMinD K) (tCons tl tNil)) σ H S (intT' (minR x xs)) := fun H1 S1 Q y q =>
  hl H1 S1 _ y fun v H2 k o => by
    obtain ⟨a, ys, rfl, ea, na, oa⟩ := o.lst_inv
    refine ⟨a, ys, intP x, xs.map intP, rfl, SqL.of ea, ocs_rows_dp oa, alike_rows (x :: xs), Nat.le_trans (depth_rows (x :: xs)) (by decide), fun i v hv hm => ?_⟩
    obtain ⟨d, hd, od⟩ := oa.get hv
    rw [List.getElem?_map] at hd
    obtain ⟨row, hr, rfl⟩ := Option.map_eq_some_iff.mp hd
    have hm2 : ((x :: xs).map intP)[i]? = some (minD (intP x) (xs.map intP)) := hm
    rw [List.getElem?_map, hr, min_rows] at hm2
    have e := intP_inj (Option.some.inj hm2)
    subst e
    exact q _ _ k od
/-! ### == of data -/
theorem op_eqDK {X : Cx} (K : PySem.W.Frag) (hu : X.A.units + 64 < cLine) (h : X.K = K := by rfl) : OpR X (compareOp .Eq) (rEqD K) := h ▸ op_eqD hu
theorem op_neDK {X : Cx} (K : PySem.W.Frag) (hu : X.A.units + 64 < cLine) (h : X.K = K := by rfl) : OpR X (compareOp .NotEq) (rNeD K) := h ▸ op_neD hu
theorem op_ninK {X : Cx} (K : PySem.W.Frag) (h : X.K = K := by rfl) : OpR X (compareOp .NotIn) (rIn K true) := h ▸ op_notIn_seq
theorem op_inK {X : Cx} (K : PySem.W.Frag) (h : X.K = K := by rfl) : OpR X (compareOp .In) (rIn K false) := h ▸ op_in_seq
theorem shaped_row (a : List Int) : SeqAt.shaped (intP a) = true := by
  unfold SeqAt.shaped intP
  have e : PyData.canLayAll0 (a.map PyData.int) = true := by
    induction a with
    | nil => rfl
    | cons x r ih => rw [List.map_cons, PyData.canLayAll0, ih]; rfl
  rw [PyData.canLay0, e, PyData.depth, depth_ints]; rfl
theorem eqv_ints : ∀ a b : List Int, PyData.eqvAll (a.map PyData.int) (b.map PyData.int) = decide (a = b)
  | [], [] => by decide
  | [], y :: t => by simp [PyData.eqvAll]
  | x :: r, [] => by simp [PyData.eqvAll]
  | x :: r, y :: t => by
    rw [List.map_cons, List.map_cons, eqv_all_cons, eqv_ints r t]
    by_cases h : x = y
    · subst h
      have : PyData.eqv (.int x) (.int x) = true := by simp [PyData.eqv]
      rw [this]; simp
    · have : PyData.eqv (.int x) (.int y) = false := by simp [PyData.eqv, h]
      rw [this]; simp [h]
theorem eqv_rows (a b : List Int) : PyData.eqv (intP a) (intP b) = decide (a = b) := by
  unfold intP
  rw [PyData.eqv, eqv_ints]
theorem T_eqRow {σ : L2.St} {H : Hp} {S : AS} {K : PySem.W.Frag} {ta tb : TE} {a b : List Int} (ha : DE ta σ H S (intT' a)) (hb : DE tb σ H S (intT' b)) : DT (tTest (tOp (rEqD K) ta tb)) σ H S (decide (a = b)) := fun H1 S1 Q x q =>
  ha H1 S1 _ x fun v H2 k o => (hb.lift (x.then k)).go (Lv.same k x.live) fun u H3 k3 o3 => by
    have e1 := (o.same k3).dp (K := K)
    have e2 := o3.dp (K := K)
    rw [pd_intT] at e1 e2
    refine ⟨_, _, e1, e2, shaped_row a, shaped_row b, _, rfl, ?_⟩
    rw [eqv_rows]
    exact q _ (k.trans k3)
theorem op_catFK {X : Cx} (K : PySem.W.Frag) (h : X.K = K := by rfl) : OpR X (binaryOp .Add) (rCatF K) := h ▸ op_catF
theorem pi_listK {X : Cx} (K : PySem.W.Frag) {tg l : Expr} {tl : TE} (hl : PE X l tl) (h : X.K = K := by rfl) : PI X tg l (iList K tl) := h ▸ pi_list hl
theorem pi_tupK {X : Cx} (K : PySem.W.Frag) {tg l : Expr} {tl : TE} (hl : PE X l tl) (h : X.K = K := by rfl) : PI X tg l (iTup K tl) := h ▸ pi_tup hl
theorem pe_tupleOfFK {X : Cx} (K : PySem.W.Frag) {a : Expr} {ta : TE} {p pos : Pos} (hg : Gl X "tuple") (hm : X.mg "tuple" = none) (ha : PE X a ta) (h : X.K = K := by rfl) (na : starEach [a] X.env = (false, eval a X.env) :: starEach [] X.env := by rfl) : PE X (.Call (.Name "tuple" p) [a] [] pos) (tTupOfF K ta) := h ▸ pe_tupleOfF hg hm ha na
theorem cr_allK {X : Cx} (K : PySem.W.Frag) (hc : X.calm = true) (h : X.K = K := by rfl) : CallR X (.builtin "all") (rAll K) := h ▸ cr_all hc
theorem cr_anyK {X : Cx} (K : PySem.W.Frag) (hc : X.calm = true) (h : X.K = K := by rfl) : CallR X (.builtin "any") (rAny K) := h ▸ cr_any hc
theorem minL_of {ns : List Int} {m : Int} (hm : m ∈ ns) (h : ∀ y ∈ ns, m ≤ y) : m = minL ns := by
  cases ns with
  | nil => cases hm
  | cons x r =>
    have key : ∀ (r : List Int) (x : Int), (r.foldl min x ∈ x :: r) ∧ ∀ y ∈ x :: r, r.foldl min x ≤ y := by
      intro r
      induction r with
      | nil => intro x; exact ⟨List.mem_singleton.mpr rfl, fun y hy => by rw [List.mem_singleton.mp hy]; exact Int.le_refl _⟩
      | cons z t ih =>
        intro x
        obtain ⟨a, b⟩ := ih (min x z)
        rw [List.foldl_cons]
        refine ⟨?_, fun y hy => ?_⟩
        · rcases List.mem_cons.mp a with e | e
          · rcases Int.le_total x z with h | h
            · rw [e, Int.min_eq_left h]; exact List.mem_cons_self
            · rw [e, Int.min_eq_right h]; exact List.mem_cons_of_mem _ List.mem_cons_self
          · exact List.mem_cons_of_mem _ (List.mem_cons_of_mem _ e)
        · have hb := b _ List.mem_cons_self
          rcases List.mem_cons.mp hy with rfl | hy
          · omega
          · rcases List.mem_cons.mp hy with rfl | hy
            · omega
            · exact b _ (List.mem_cons_of_mem _ hy)
    obtain ⟨a, b⟩ := key r x
    show m = r.foldl min x
    have h1 := h _ a
    have h2 := b _ hm
    omega
theorem D_minInts {σ : L2.St} {H : Hp} {S : AS} {K : PySem.W.Frag} {tl : TE} {ns : List Int} (hl : DE tl σ H S (.lst (ns.map Dt.int))) (hne : ns ≠ []) : DE (tCB (rMin K) (tCons tl tNil)) σ H S (.int (minL ns)) := fun H1 S1 Q y q =>
  hl H1 S1 _ y fun v H2 k o => by
    obtain ⟨a, ys, rfl, ea, na, oa⟩ := o.lst_inv
    have e := oa.ints
    subst e
    refine ⟨a, ns, rfl, SqL.of ea, List.length_pos_iff.mpr hne, fun m hm hle => ?_⟩
    rw [minL_of hm hle]
    exact q _ _ k (.int _)
theorem D_fn {sp : Sp} {E : XK} {ta : TA} {σ : L2.St} {H : Hp} {S : AS} {ds : List Dt} {d : Dt} (ha : DA ta σ H S ds) (h : ∀ H1 S1 vs (Q : VK), Lift H S H1 S1 → Ocs H1 S1 vs ds → (∀ v H2, Same H1 H2 → Oc H2 S1 v d → Q v H2) → sp vs H1 Q E) : DE (tCall sp [] E ta) σ H S d := fun H1 S1 Q x q =>
  ha H1 S1 _ x fun vs H2 k o => by
    show sp (vs ++ []) H2 Q E
    rw [List.append_nil]
    exact h H2 S1 vs Q (x.then k) o fun v H3 k3 o3 => q _ _ (k.trans k3) o3
theorem Ocs.one {H : Hp} {S : AS} {vs : List V} {d : Dt} (h : Ocs H S vs [d]) : ∃ v, vs = [v] ∧ Oc H S v d := by
  cases h with
  | cons h t => cases t; exact ⟨_, rfl, h⟩
theorem Ocs.two {H : Hp} {S : AS} {vs : List V} {d e : Dt} (h : Ocs H S vs [d, e]) : ∃ v u, vs = [v, u] ∧ Oc H S v d ∧ Oc H S u e := by
  cases h with
  | cons h t =>
    obtain ⟨u, rfl, o⟩ := t.one
    exact ⟨_, _, rfl, h, o⟩
theorem Ocs.three {H : Hp} {S : AS} {vs : List V} {d e f : Dt} (h : Ocs H S vs [d, e, f]) : ∃ v u x, vs = [v, u, x] ∧ Oc H S v d ∧ Oc H S u e ∧ Oc H S x f := by
  cases h with
  | cons h t =>
    obtain ⟨u, x, rfl, o, p⟩ := t.two
    exact ⟨_, _, _, rfl, h, o, p⟩
theorem le_maxL {ns : List Int} {m : Int} (hm : m ∈ ns) : m ≤ maxL ns := by
  cases ns with
  | nil => cases hm
  | cons x r =>
    have key : ∀ (r : List Int) (x : Int), ∀ y ∈ x :: r, y ≤ r.foldl max x := by
      intro r
      induction r with
      | nil => intro x y hy; rw [List.mem_singleton.mp hy]; exact Int.le_refl _
      | cons z t ih =>
        intro x y hy
        have b := ih (max x z)
        rw [List.foldl_cons]
        have hb := b _ List.mem_cons_self
        rcases List.mem_cons.mp hy with rfl | hy
        · omega
        · rcases List.mem_cons.mp hy with rfl | hy
          · omega
          · exact b _ (List.mem_cons_of_mem _ hy)
    exact key r x m hm
theorem D_maxInts {σ : L2.St} {H : Hp} {S : AS} {K : PySem.W.Frag} {tl : TE} {ns : List Int} {m : Nat} (hl : DE tl σ H S (intT' ns)) (hm : maxL ns = m) (hne : ns ≠ [] := by first | assumption | (rintro rfl; simp_all)) : DE (tCB (rMaxT K) (tCons tl tNil)) σ H S (.int (m : Nat)) := fun H1 S1 Q y q =>
  hl H1 S1 _ y fun v H2 k o => by
    obtain ⟨a, ys, rfl, ea, na, oa⟩ := o.tup_inv
    have e := oa.ints
    subst e
    cases ns with
    | nil => exact absurd rfl hne
    | cons x r => exact ⟨a, x, r, rfl, ea.sq, q _ _ k (by rw [← hm]; exact .int _)⟩
theorem D_catL {σ : L2.St} {H : Hp} {S : AS} {ta tb : TE} {ds es : List Dt} (ha : DE ta σ H S (.lst ds)) (hb : DE tb σ H S (.lst es)) (hz : ds.length + es.length ≤ 1000000) : DE (tOp rCat ta tb) σ H S (.lst (ds ++ es)) := fun H1 S1 Q x q =>
  ha H1 S1 _ x fun v H2 k o => (hb.lift (x.then k)).go (Lv.same k x.live) fun u H3 k3 o3 => by
    obtain ⟨a, xs, rfl, ea, na, oa⟩ := o.lst_inv
    obtain ⟨b, ys, rfl, eb, nb, ob⟩ := o3.lst_inv
    have la := oa.len
    have lb := ob.len
    have oa' := oa.same k3
    refine ⟨a, b, xs, ys, rfl, rfl, k3 _ _ ea, eb, Nat.le_trans (show _ ≤ 1000000 by omega) (by decide), fun p hp => ?_⟩
    exact q _ _ ((k.trans k3).trans (same_upd hp)) (.lst upd_same (Lv.out (Lv.same k3 (Lv.same k x.live)) hp) ((oa'.append ob).same (same_upd hp)))
theorem fl_len {α : Type} (ds : List α) (f : α → List (List Int)) (m : Nat) (h : ∀ d ∈ ds, (f d).length ≤ m) : (ds.flatMap f).length ≤ ds.length * m := by
  induction ds with
  | nil => simp
  | cons d r ih =>
    have h1 := ih fun y hy => h y (List.mem_cons_of_mem _ hy)
    have h2 := h d List.mem_cons_self
    rw [List.flatMap_cons, List.length_append, List.length_cons, Nat.succ_mul]
    omega
theorem D_call {te : TE} {σ : L2.St} {H : Hp} {S : AS} {d : Dt} (h : ∀ (H1 : Hp) (S1 : AS) (Q : VK), Lift H S H1 S1 → (∀ v H2, Same H1 H2 → Oc H2 S1 v d → Q v H2) → te σ H1 Q) : DE te σ H S d := h
theorem S_setQ {te : TE} {i : Nat} {σ : L2.St} {H : Hp} {u : TS} {D : Ends} (h : te σ H fun v H2 => u D (σ.set i (some v)) H2) : tSeq (tAsg te (gName i)) u D σ H := h
/-- >= of data -/
def rGeD (K : PySem.W.Frag) : R2 := fun x y H Q => ∃ d e, Dp K H x d ∧ Dp K H y e ∧ alike d e = true ∧ d ≠ .none ∧ min d.depth e.depth ≤ 32 ∧ Q (.bl (!dataLt d e)) H
theorem op_geD {X : Cx} (K : PySem.W.Frag) (hu : X.A.units + 64 < cLine) (h : X.K = K := by rfl) : OpR X (compareOp .GtE) (rGeD K) := by
  subst h
  intro pins s σ H x y v u Q I rx ry h
  obtain ⟨d, e, hd, he, al, nn, dp, q⟩ := h
  obtain ⟨as, r1⟩ := Dp.reads I d x v hd rx
  obtain ⟨bs, r2⟩ := Dp.reads I e y u he ry
  exact ge_data r1 r2 al nn (by omega) ⟨.bl _, H, I, rfl, q⟩
theorem op_inDK {X : Cx} (K : PySem.W.Frag) (hu : X.A.units + 65 < cLine) (h : X.K = K := by rfl) : OpR X (compareOp .In) (rInD K) := h ▸ op_inD hu
theorem any_rows (a : List Int) : ∀ rows : List (List Int), ((rows.map intP).any fun z => PyData.eqv z (intP a)) = decide (a ∈ rows)
  | [] => rfl
  | r :: t => by
    rw [List.map_cons, List.any_cons, any_rows a t, eqv_rows]
    by_cases h : r = a
    · subst h; simp
    · have h2 : ¬ a = r := fun z => h z.symm
      simp [h, h2]
theorem shaped_rows (rows : List (List Int)) : SeqAt.shaped (.list (rows.map intP)) = true := by
  unfold SeqAt.shaped
  have e : PyData.canLayAll0 (rows.map intP) = true := by
    induction rows with
    | nil => rfl
    | cons x r ih =>
      rw [List.map_cons, PyData.canLayAll0, ih]
      have h := shaped_row x
      unfold SeqAt.shaped at h
      rw [Bool.and_eq_true] at h
      rw [h.1]; rfl
  have d := depth_rows rows
  rw [PyData.canLay0, e, PyData.depth, Bool.true_and, decide_eq_true_eq]
  omega
theorem T_inRows {σ : L2.St} {H : Hp} {S : AS} {K : PySem.W.Frag} {ta tb : TE} {a : List Int} {rows : List (List Int)} (ha : DE ta σ H S (intT' a)) (hb : DE tb σ H S (.lst (rows.map intT'))) : DT (tTest (tOp (rInD K) ta tb)) σ H S (decide (a ∈ rows)) := fun H1 S1 Q x q =>
  ha H1 S1 _ x fun v H2 k o => (hb.lift (x.then k)).go (Lv.same k x.live) fun u H3 k3 o3 => by
    have e1 := (o.same k3).dp (K := K)
    rw [pd_intT] at e1
    obtain ⟨b, ys, rfl, eb, nb, ob⟩ := o3.lst_inv
    refine ⟨intP a, rows.map intP, e1, .lst (SqL.of eb) (ocs_rows_dp ob), shaped_row a, shaped_rows rows, _, rfl, ?_⟩
    rw [any_rows]
    exact q _ (k.trans k3)
theorem units65 {k : Nat} {A : Around} (r : Room k A) : A.units + 65 < cLine := by have := r.un; omega
theorem eqv_lrows : ∀ a b : List (List Int), PyData.eqvAll (a.map intP) (b.map intP) = decide (a = b)
  | [], [] => by decide
  | [], y :: t => by simp [PyData.eqvAll]
  | x :: r, [] => by simp [PyData.eqvAll]
  | x :: r, y :: t => by
    rw [List.map_cons, List.map_cons, eqv_all_cons, eqv_lrows r t, eqv_rows]
    by_cases h : x = y
    · subst h; simp
    · simp [h]
theorem eqv_lists (a b : List (List Int)) : PyData.eqv (.list (a.map intP)) (.list (b.map intP)) = decide (a = b) := by rw [PyData.eqv, eqv_lrows]
theorem Oc.rows_dp {H : Hp} {S : AS} {K : PySem.W.Frag} {v : V} {rows : List (List Int)} (h : Oc H S v (.lst (rows.map intT'))) : Dp K H v (.list (rows.map intP)) := by
  obtain ⟨a, xs, rfl, ea, na, oa⟩ := h.lst_inv
  exact .lst (SqL.of ea) (ocs_rows_dp oa)
theorem D_eqL {σ : L2.St} {H : Hp} {S : AS} {K : PySem.W.Frag} {ta tb : TE} {a b : List (List Int)} (ha : DE ta σ H S (.lst (a.map intT'))) (hb : DE tb σ H S (.lst (b.map intT'))) : DE (tOp (rEqD K) ta tb) σ H S (.bl (decide (a = b))) := fun H1 S1 Q x q =>
  ha H1 S1 _ x fun v H2 k o => (hb.lift (x.then k)).go (Lv.same k x.live) fun u H3 k3 o3 => by
    refine ⟨_, _, (o.same k3).rows_dp, o3.rows_dp, shaped_rows a, shaped_rows b, ?_⟩
    rw [eqv_lists]
    exact q _ _ (k.trans k3) (.bl _)
theorem T_neRow {σ : L2.St} {H : Hp} {S : AS} {K : PySem.W.Frag} {ta tb : TE} {a b : List Int} (ha : DE ta σ H S (intT' a)) (hb : DE tb σ H S (intT' b)) : DT (tTest (tOp (rNeD K) ta tb)) σ H S (!decide (a = b)) := fun H1 S1 Q x q =>
  ha H1 S1 _ x fun v H2 k o => (hb.lift (x.then k)).go (Lv.same k x.live) fun u H3 k3 o3 => by
    have e1 := (o.same k3).dp (K := K)
    have e2 := o3.dp (K := K)
    rw [pd_intT] at e1 e2
    refine ⟨_, _, e1, e2, shaped_row a, shaped_row b, _, rfl, ?_⟩
    rw [eqv_rows]
    exact q _ (k.trans k3)
theorem DT.go {tt : TT} {σ : L2.St} {H : Hp} {S : AS} {b : Bool} {Q : Bool → Hp → Prop} (h : DT tt σ H S b) (l : Lv H S) (q : ∀ H2, Same H H2 → Q b H2) : tt σ H Q := h H S Q (Lift.refl l) q
theorem T_geRow {σ : L2.St} {H : Hp} {S : AS} {K : PySem.W.Frag} {ta tb : TE} {a b : List Int} (ha : DE ta σ H S (intT' a)) (hb : DE tb σ H S (intT' b)) : DT (tTest (tOp (rGeD K) ta tb)) σ H S (!ltI a b) := fun H1 S1 Q x q =>
  ha H1 S1 _ x fun v H2 k o => (hb.lift (x.then k)).go (Lv.same k x.live) fun u H3 k3 o3 => by
    have e1 := (o.same k3).dp (K := K)
    have e2 := o3.dp (K := K)
    rw [pd_intT] at e1 e2
    refine ⟨_, _, e1, e2, (alike_rows [a, b]).1 _ (by simp) _ (by simp), fun z => (by unfold intP at z; exact nomatch z), ?_, _, rfl, ?_⟩
    · have h2 : PyData.depth (intP a) = 1 := by unfold intP; rw [PyData.depth, depth_ints]
      omega
    · rw [lt_rows]
      exact q _ (k.trans k3)
theorem S_set {te : TE} {i : Nat} {σ : L2.St} {H : Hp} {S : AS} {d : Dt} {u : TS} {D : Ends} (h : DE te σ H S d) (lv : Lv H S) (k : ∀ v H2, Same H H2 → Oc H2 S v d → u D (σ.set i (some v)) H2) : tSeq (tAsg te (gName i)) u D σ H := h.go lv k
theorem S_set1 {te : TE} {i : Nat} {σ : L2.St} {H : Hp} {S : AS} {d : Dt} {D : Ends} (h : DE te σ H S d) (lv : Lv H S) (k : ∀ v H2, Same H H2 → Oc H2 S v d → D.nx (σ.set i (some v)) H2) : tAsg te (gName i) D σ H := h.go lv k
theorem S_ret {te : TE} {σ : L2.St} {H : Hp} {S : AS} {d : Dt} {D : Ends} (h : DE te σ H S d) (lv : Lv H S) (k : ∀ v H2, Same H H2 → Oc H2 S v d → D.rt v H2) : tRet te D σ H := h.go lv k
/-- i not in (a tuple of ints) -/
theorem inV_ints (i : Int) : ∀ ns : List Int, inV (.int i) (ns.map V.int) = decide (i ∈ ns)
  | [] => rfl
  | n :: r => by
    have ih := inV_ints i r
    unfold inV at ih ⊢
    rw [List.map_cons, List.any_cons, ih]
    show ((n == i) || decide (i ∈ r)) = decide (i ∈ n :: r)
    by_cases e : n = i
    · subst e; simp
    · have e2 : (n == i) = false := beq_eq_false_iff_ne.mpr e
      have e3 : ¬ i = n := fun z => e z.symm
      rw [e2, Bool.false_or]
      simp [e3]
theorem flat_ints : ∀ ns : List Int, (ns.map V.int).all flatV = true
  | [] => rfl
  | n :: r => by rw [List.map_cons, List.all_cons, flat_ints r]; rfl
theorem T_nin {σ : L2.St} {H : Hp} {S : AS} {K : PySem.W.Frag} {ta tb : TE} {i : Int} {ns : List Int} (ha : DE ta σ H S (.int i)) (hb : DE tb σ H S (intT' ns)) : DT (tTest (tOp (rIn K true) ta tb)) σ H S (!decide (i ∈ ns)) := fun H1 S1 Q x q =>
  ha H1 S1 _ x fun v H2 k o => (hb.lift (x.then k)).go (Lv.same k x.live) fun u H3 k3 o3 => by
    have e := o.int_inv
    subst e
    obtain ⟨a, xs, rfl, ea, na, oa⟩ := o3.tup_inv
    have ex := oa.ints
    subst ex
    refine ⟨a, _, rfl, .inr ea.sq, rfl, flat_ints ns, _, rfl, ?_⟩
    have e : (if true = true then !inV (V.int i) (ns.map V.int) else inV (V.int i) (ns.map V.int)) = !decide (i ∈ ns) := by
      rw [if_pos rfl, inV_ints]
    rw [e]
    exact q _ (k.trans k3)
/-- t[i] -/
theorem D_ixT {σ : L2.St} {H : Hp} {S : AS} {K : PySem.W.Frag} {ta tb : TE} {ds : List Dt} {z : Bool} {i : Nat} {d : Dt} (ha : DE ta σ H S (.tup z ds)) (hb : DE tb σ H S (.int (i : Nat))) (hd : ds[i]? = some d) : DE (tOp (rIxT K) ta tb) σ H S d := fun H1 S1 Q x q =>
  ha H1 S1 _ x fun v H2 k o => (hb.lift (x.then k)).go (Lv.same k x.live) fun u H3 k3 o3 => by
    have e := o3.int_inv
    subst e
    obtain ⟨a, xs, rfl, ea, na, oa⟩ := (o.same k3).tup_inv
    obtain ⟨w, hw, ow⟩ := oa.at hd
    exact ⟨a, xs, _, w, rfl, rfl, ea.sq, atI_nat hw, q _ _ (k.trans k3) ow⟩
theorem D_ixL {σ : L2.St} {H : Hp} {S : AS} {K : PySem.W.Frag} {ta tb : TE} {ds : List Dt} {i : Nat} {d : Dt} (ha : DE ta σ H S (.lst ds)) (hb : DE tb σ H S (.int (i : Nat))) (hd : ds[i]? = some d) : DE (tOp (rIxL K) ta tb) σ H S d := fun H1 S1 Q x q =>
  ha H1 S1 _ x fun v H2 k o => (hb.lift (x.then k)).go (Lv.same k x.live) fun u H3 k3 o3 => by
    have e := o3.int_inv
    subst e
    obtain ⟨a, xs, rfl, ea, na, oa⟩ := (o.same k3).lst_inv
    obtain ⟨w, hw, ow⟩ := oa.at hd
    exact ⟨a, xs, _, w, rfl, rfl, SqL.of ea, atI_nat hw, q _ _ (k.trans k3) ow⟩
end Lc
namespace K06
open PySem PySem.Spec PyProof.Rows L2 Lc RZ
def topS (i : Nat) : Stmt := PySem.Challenge.pw_lanescounted_k06_whole_small_courses.main.body.getD i (.Pass ⟨0, 0, 0, 0⟩)
abbrev s_is_whole : Stmt := topS 1
theorem sc_is_whole : FnScope ["thing", "low", "high"] ["thing", "low", "high"] (defScope s_is_whole) := ⟨rfl, rfl, rfl, by decide +kernel, rfl, by decide +kernel, by decide +kernel⟩
abbrev s_is_row : Stmt := topS 2
theorem sc_is_row : FnScope ["thing", "low", "high"] ["thing", "low", "high"] (defScope s_is_row) := ⟨rfl, rfl, rfl, by decide +kernel, rfl, by decide +kernel, by decide +kernel⟩
abbrev s_small_courses : Stmt := topS 8
theorem sc_small_courses : FnScope ["counts", "course"] ["counts"] (defScope s_small_courses) := ⟨rfl, rfl, rfl, by decide +kernel, rfl, by decide +kernel, by decide +kernel⟩
abbrev s_is_counts : Stmt := topS 9
theorem sc_is_counts : FnScope ["thing", "count"] ["thing"] (defScope s_is_counts) := ⟨rfl, rfl, rfl, by decide +kernel, rfl, by decide +kernel, by decide +kernel⟩
abbrev s_check_counts : Stmt := topS 10
theorem sc_check_counts : FnScope ["counts"] ["counts"] (defScope s_check_counts) := ⟨rfl, rfl, rfl, by decide +kernel, rfl, by decide +kernel, by decide +kernel⟩
abbrev s_courses_of : Stmt := topS 11
theorem sc_courses_of : FnScope ["counts", "courses", "count", "course", "lane"] ["counts"] (defScope s_courses_of) := ⟨rfl, rfl, rfl, by decide +kernel, rfl, by decide +kernel, by decide +kernel⟩
abbrev s_renamings_of : Stmt := topS 12
theorem sc_renamings_of : FnScope ["counts", "renamings", "old", "room", "lanes", "new", "count"] ["counts"] (defScope s_renamings_of) := ⟨rfl, rfl, rfl, by decide +kernel, rfl, by decide +kernel, by decide +kernel⟩
abbrev s_renamed : Stmt := topS 13
theorem sc_renamed : FnScope ["course", "lanes", "lane"] ["course", "lanes"] (defScope s_renamed) := ⟨rfl, rfl, rfl, by decide +kernel, rfl, by decide +kernel, by decide +kernel⟩
abbrev s_least_alike : Stmt := topS 14
theorem sc_least_alike : FnScope ["course", "counts", "lanes"] ["course", "counts"] (defScope s_least_alike) := ⟨rfl, rfl, rfl, by decide +kernel, rfl, by decide +kernel, by decide +kernel⟩
abbrev s_law_source : Stmt := topS 16
theorem sc_law_source : FnScope ["_law_script"] ["_law_script"] (defScope s_law_source) := ⟨rfl, rfl, rfl, by decide +kernel, rfl, by decide +kernel, by decide +kernel⟩
abbrev s_law_draw : Stmt := topS 17
theorem sc_law_draw : FnScope ["_law_source_here", "_law_limit", "_law_cell", "_law_digit", "_law_mixed"] ["_law_source_here", "_law_limit"] (defScope s_law_draw) := ⟨rfl, rfl, rfl, by decide +kernel, rfl, by decide +kernel, by decide +kernel⟩
abbrev s_law_integer : Stmt := topS 18
theorem sc_law_integer : FnScope ["_law_found"] ["_law_found"] (defScope s_law_integer) := ⟨rfl, rfl, rfl, by decide +kernel, rfl, by decide +kernel, by decide +kernel⟩
abbrev s_law_orders : Stmt := topS 19
theorem sc_law_orders : FnScope ["_law_many", "_law_rows", "_law_k", "_law_wider", "_law_row", "_law_lane"] ["_law_many"] (defScope s_law_orders) := ⟨rfl, rfl, rfl, by decide +kernel, rfl, by decide +kernel, by decide +kernel⟩
abbrev s_law_keeps : Stmt := topS 20
theorem sc_law_keeps : FnScope ["_law_counts", "_law_order", "_law_count", "_law_lane"] ["_law_counts", "_law_order"] (defScope s_law_keeps) := ⟨rfl, rfl, rfl, by decide +kernel, rfl, by decide +kernel, by decide +kernel⟩
abbrev s_law_alike : Stmt := topS 21
theorem sc_law_alike : FnScope ["_law_counts", "_law_course", "_law_orders_here", "_law_order", "_law_lane"] ["_law_counts", "_law_course"] (defScope s_law_alike) := ⟨rfl, rfl, rfl, by decide +kernel, rfl, by decide +kernel, by decide +kernel⟩
abbrev s_law : Stmt := topS 22
theorem sc_law : FnScope ["_law_script", "_law_source_here", "_law_k", "_law_counts", "_law_count", "_law_course", "_law_found", "_law_row", "_law_lane", "_law_alike_here"] ["_law_script"] (defScope s_law) := ⟨rfl, rfl, rfl, by decide +kernel, rfl, by decide +kernel, by decide +kernel⟩
structure Txt (K : PySem.W.Frag) (mg : Str → Option Value) where
  a_is_whole : Addr
  d_is_whole : FuncData
  F_is_whole : Fun K "is_whole" "is_whole" s_is_whole a_is_whole d_is_whole
  g_is_whole : mg "is_whole" = some (.ref a_is_whole)
  b_is_whole : Binds K d_is_whole ["thing", "low", "high"] []
  a_is_row : Addr
  d_is_row : FuncData
  F_is_row : Fun K "is_row" "is_row" s_is_row a_is_row d_is_row
  g_is_row : mg "is_row" = some (.ref a_is_row)
  b_is_row : Binds K d_is_row ["thing", "low", "high"] []
  a_small_courses : Addr
  d_small_courses : FuncData
  F_small_courses : Fun K "small_courses" "small_courses" s_small_courses a_small_courses d_small_courses
  g_small_courses : mg "small_courses" = some (.ref a_small_courses)
  b_small_courses : Binds K d_small_courses ["counts"] []
  a_is_counts : Addr
  d_is_counts : FuncData
  F_is_counts : Fun K "is_counts" "is_counts" s_is_counts a_is_counts d_is_counts
  g_is_counts : mg "is_counts" = some (.ref a_is_counts)
  b_is_counts : Binds K d_is_counts ["thing"] []
  a_check_counts : Addr
  d_check_counts : FuncData
  F_check_counts : Fun K "check_counts" "check_counts" s_check_counts a_check_counts d_check_counts
  g_check_counts : mg "check_counts" = some (.ref a_check_counts)
  b_check_counts : Binds K d_check_counts ["counts"] []
  a_courses_of : Addr
  d_courses_of : FuncData
  F_courses_of : Fun K "courses_of" "courses_of" s_courses_of a_courses_of d_courses_of
  g_courses_of : mg "courses_of" = some (.ref a_courses_of)
  b_courses_of : Binds K d_courses_of ["counts"] []
  a_renamings_of : Addr
  d_renamings_of : FuncData
  F_renamings_of : Fun K "renamings_of" "renamings_of" s_renamings_of a_renamings_of d_renamings_of
  g_renamings_of : mg "renamings_of" = some (.ref a_renamings_of)
  b_renamings_of : Binds K d_renamings_of ["counts"] []
  a_renamed : Addr
  d_renamed : FuncData
  F_renamed : Fun K "renamed" "renamed" s_renamed a_renamed d_renamed
  g_renamed : mg "renamed" = some (.ref a_renamed)
  b_renamed : Binds K d_renamed ["course", "lanes"] []
  a_least_alike : Addr
  d_least_alike : FuncData
  F_least_alike : Fun K "least_alike" "least_alike" s_least_alike a_least_alike d_least_alike
  g_least_alike : mg "least_alike" = some (.ref a_least_alike)
  b_least_alike : Binds K d_least_alike ["course", "counts"] []
  a_law_source : Addr
  d_law_source : FuncData
  F_law_source : Fun K "_law_source" "_law_source" s_law_source a_law_source d_law_source
  g_law_source : mg "_law_source" = some (.ref a_law_source)
  b_law_source : Binds K d_law_source ["_law_script"] []
  a_law_draw : Addr
  d_law_draw : FuncData
  F_law_draw : Fun K "_law_draw" "_law_draw" s_law_draw a_law_draw d_law_draw
  g_law_draw : mg "_law_draw" = some (.ref a_law_draw)
  b_law_draw : Binds K d_law_draw ["_law_source_here", "_law_limit"] []
  a_law_integer : Addr
  d_law_integer : FuncData
  F_law_integer : Fun K "_law_integer" "_law_integer" s_law_integer a_law_integer d_law_integer
  g_law_integer : mg "_law_integer" = some (.ref a_law_integer)
  b_law_integer : Binds K d_law_integer ["_law_found"] []
  a_law_orders : Addr
  d_law_orders : FuncData
  F_law_orders : Fun K "_law_orders" "_law_orders" s_law_orders a_law_orders d_law_orders
  g_law_orders : mg "_law_orders" = some (.ref a_law_orders)
  b_law_orders : Binds K d_law_orders ["_law_many"] []
  a_law_keeps : Addr
  d_law_keeps : FuncData
  F_law_keeps : Fun K "_law_keeps" "_law_keeps" s_law_keeps a_law_keeps d_law_keeps
  g_law_keeps : mg "_law_keeps" = some (.ref a_law_keeps)
  b_law_keeps : Binds K d_law_keeps ["_law_counts", "_law_order"] []
  a_law_alike : Addr
  d_law_alike : FuncData
  F_law_alike : Fun K "_law_alike" "_law_alike" s_law_alike a_law_alike d_law_alike
  g_law_alike : mg "_law_alike" = some (.ref a_law_alike)
  b_law_alike : Binds K d_law_alike ["_law_counts", "_law_course"] []
  a_law : Addr
  d_law : FuncData
  F_law : Fun K "law" "law" s_law a_law d_law
  g_law : mg "law" = some (.ref a_law)
  b_law : Binds K d_law ["_law_script"] []
  z_all : mg "all" = none
  z_bool : mg "bool" = none
  z_int : mg "int" = none
  z_isinstance : mg "isinstance" = none
  z_len : mg "len" = none
  z_list : mg "list" = none
  z_max : mg "max" = none
  z_min : mg "min" = none
  z_range : mg "range" = none
  z_tuple : mg "tuple" = none
  z_zip : mg "zip" = none
  u_GREATEST_OF_COUNTS : Value
  g_GREATEST_OF_COUNTS : mg "GREATEST_OF_COUNTS" = some u_GREATEST_OF_COUNTS
  r_GREATEST_OF_COUNTS : RelV (.int 4) u_GREATEST_OF_COUNTS
  C_LaneError : Addr
  g_LaneError : mg "LaneError" = some (.ref C_LaneError)
  x_LaneError : PySem.W.excIn K C_LaneError [.type "ValueError", .type "Exception", .type "BaseException", .type "object"] "ValueError.__new__" = true
  k_LaneError : PySem.W.keepIn K (.ref C_LaneError) = true
  p_LaneError : PySem.W.subIn K (.ref C_LaneError) (.type "BaseException") = some true
  t_LaneError : PySem.W.typeIn K (.ref C_LaneError) = some (.type "type")
  i_LaneError : PySem.W.isClsIn K C_LaneError = true
  C_BadCounts : Addr
  g_BadCounts : mg "BadCounts" = some (.ref C_BadCounts)
  x_BadCounts : PySem.W.excIn K C_BadCounts [.type "ValueError", .type "Exception", .type "BaseException", .type "object"] "ValueError.__new__" = true
  k_BadCounts : PySem.W.keepIn K (.ref C_BadCounts) = true
  p_BadCounts : PySem.W.subIn K (.ref C_BadCounts) (.type "BaseException") = some true
  t_BadCounts : PySem.W.typeIn K (.ref C_BadCounts) = some (.type "type")
  i_BadCounts : PySem.W.isClsIn K C_BadCounts = true
def Txt.exc {K : PySem.W.Frag} {mg : Str → Option Value} (T : Txt K mg) (n : String) : Addr := if n = "LaneError" then T.C_LaneError else if n = "BadCounts" then T.C_BadCounts else 0
/-- the source of draws, its script's list apart from Av -/
structure SrcA (H : Hp) (a : Addr) (n : Nat) (Av : Addr → Prop) : Prop where
  ex : ∃ (l : Addr) (ns : List Int) (x y z : Int), H a = some (.lst [.ref l, .int x, .int y, .int z]) ∧ H l = some (.lst (ns.map V.int)) ∧ (∀ k ∈ ns, k.natAbs.log2 ≤ 1048576) ∧ ns.length ≤ 63 ∧
    0 ≤ x ∧ x.natAbs.log2 ≤ 1048576 ∧ 0 ≤ y ∧ y < 2147483647 ∧ 0 ≤ z ∧ z ≤ (n : Int) ∧ ∀ D, Av D → l ≠ D
def spDrawA : Sp := fun vs H Q _ => ∃ (a : Addr) (n : Nat) (lim : Int) (Av : Addr → Prop), vs = [.ref a, .int lim] ∧ SrcA H a n Av ∧ (∀ D, Av D → H D ≠ none) ∧ n < 1000000 ∧ 1 ≤ lim ∧ lim ≤ 1000000000000 ∧
  ∀ d H', 0 ≤ d → d < lim → SrcA H' a (n + 1) Av → But a H H' → Q (.int d) H'
def spSourceA (K : PySem.W.Frag) : Sp := fun vs H Q _ => ∃ (a : Addr) (ns : List Int), vs = [.ref a] ∧ SqL K H a (ns.map V.int) ∧ ns.length ≤ 63 ∧ (∀ z ∈ ns, Builtin.Int.intBits z ≤ 1048576) ∧
  ∀ p H', H p = none → SrcA H' p 0 (fun _ => False) → Same H H' → Q (.ref p) H'
/-- no list for Av stands free -/
def Live (H : Hp) (Av : Addr → Prop) : Prop := ∀ D, Av D → H D ≠ none
section
variable {H H' : Hp} {a : Addr} {n m : Nat} {Av Av' : Addr → Prop}
theorem SrcA.ne (S : SrcA H a n Av) {b : Addr} (h : H b = none) : b ≠ a := by
  obtain ⟨l, ns, x, y, z, h1, _⟩ := S.ex
  intro e; subst e; rw [h] at h1; cases h1
theorem SrcA.live (S : SrcA H a n Av) : H a ≠ none := fun e => S.ne e rfl
theorem SrcA.le (S : SrcA H a n Av) (h : n ≤ m) : SrcA H a m Av := by
  obtain ⟨l, ns, x, y, z, h1, h2, h3, h4, h5, h6, h7, h8, h9, h10, h11⟩ := S.ex
  exact ⟨l, ns, x, y, z, h1, h2, h3, h4, h5, h6, h7, h8, h9, by omega, h11⟩
theorem SrcA.same (S : SrcA H a n Av) (k : Same H H') : SrcA H' a n Av := by
  obtain ⟨l, ns, x, y, z, h1, h2, h3⟩ := S.ex
  exact ⟨l, ns, x, y, z, k _ _ h1, k _ _ h2, h3⟩
theorem SrcA.sub (S : SrcA H a n Av) (h : ∀ D, Av' D → Av D) : SrcA H a n Av' := by
  obtain ⟨l, ns, x, y, z, h1, h2, h3, h4, h5, h6, h7, h8, h9, h10, h11⟩ := S.ex
  exact ⟨l, ns, x, y, z, h1, h2, h3, h4, h5, h6, h7, h8, h9, h10, fun D hD => h11 D (h D hD)⟩
theorem SrcA.add {D : Addr} {o : HO} (S : SrcA H a n Av) (hD : H D = none) : SrcA (upd H D o) a n (And1 Av D) := by
  have k := same_upd (o := o) hD
  obtain ⟨l, ns, x, y, z, h1, h2, h3, h4, h5, h6, h7, h8, h9, h10, h11⟩ := S.ex
  exact ⟨l, ns, x, y, z, k _ _ h1, k _ _ h2, h3, h4, h5, h6, h7, h8, h9, h10, fun b hb e => by
    rcases hb with hb | hb
    · exact h11 b hb e
    · rw [e, hb, hD] at h2; cases h2⟩
theorem SrcA.put {D : Addr} {o : HO} (S : SrcA H a n Av) (hD : Av D) (ne : D ≠ a) : SrcA (upd H D o) a n Av := by
  obtain ⟨l, ns, x, y, z, h1, h2, h3, h4, h5, h6, h7, h8, h9, h10, h11⟩ := S.ex
  exact ⟨l, ns, x, y, z, (by rw [upd_ne ne.symm]; exact h1), (by rw [upd_ne (h11 D hD)]; exact h2), h3, h4, h5, h6, h7, h8, h9, h10, h11⟩
theorem Live.but (h : Live H Av) (S : SrcA H' a n Av) (b : But a H H') : Live H' Av := fun D hD z => by
  by_cases e : D = a
  · subst e; exact S.live z
  · cases y : H D with
    | none => exact h D hD y
    | some o => rw [b _ _ e y] at z; cases z
theorem Live.same (h : Live H Av) (k : Same H H') : Live H' Av := fun D hD z => by
  cases y : H D with
  | none => exact h D hD y
  | some o => rw [k _ _ y] at z; cases z
theorem Live.add {D : Addr} {o : HO} (h : Live H Av) (hD : H D = none) : Live (upd H D o) (And1 Av D) := fun b hb z => by
  rcases hb with hb | hb
  · exact h.same (same_upd hD) b hb z
  · subst hb; rw [upd_same] at z; cases z
theorem Live.put {D : Addr} {o : HO} (h : Live H Av) : Live (upd H D o) Av := fun b hb z => by
  by_cases e : b = D
  · subst e; rw [upd_same] at z; cases z
  · rw [upd_ne e] at z; exact h b hb z
end
section
variable {P : Program} {w : World} {K : PySem.W.Frag} {mg : Str → Option Value} {base : Heap}
theorem ok_law_source (T : Txt K mg) : FnOk P w K mg base CX0 1 T.a_law_source T.d_law_source ["_law_script"] (spSourceA K) := by
  refine T.F_law_source.ok sc_law_source (fun vs H Q E h => ?_) (fun cdv A outer s H vs Q E hr h => ?_)
  · obtain ⟨a, ns, rfl, _⟩ := h
    rfl
  · obtain ⟨a, ns, rfl, hS, hlen, hb, q⟩ := h
    refine ⟨_, (pss_one (ps_ret (pe_lst (pa_cons (pe_callTy call_list_of (by rfl) T.z_list (by decide +kernel) (pa_cons (pv 0) pa_nil)) (pa_cons pe_int (pa_cons pe_int (pa_cons pe_int pa_nil))))))), ?_⟩
    refine ⟨.ref a, rfl, a, _, rfl, .inl hS, fun l hl => ⟨(by show 4 ≤ sizeLine; decide), fun p hp => ?_⟩⟩
    have hpl : l ≠ p := ne_of_none upd_same hp
    have hp0 : H p = none := by rw [← upd_ne (H := H) (o := .lst (ns.map V.int)) hpl.symm]; exact hp
    refine q p _ hp0 ⟨l, ns, 0, 1, 0, upd_same, (by rw [upd_ne hpl]; exact upd_same), fun k hk => bits_log (hb k hk), hlen, by decide, by decide, by decide, by decide, by decide, by decide, fun _ h => False.elim h⟩ ((same_upd hl).trans (same_upd hp))
theorem ok_law_draw (T : Txt K mg) : FnOk P w K mg base CX0 1 T.a_law_draw T.d_law_draw ["_law_source_here", "_law_limit"] spDrawA := by
  refine T.F_law_draw.ok sc_law_draw (fun vs H Q E h => ?_) (fun cdv A outer s H vs Q E hr h => ?_)
  · obtain ⟨a, n, lim, Av, rfl, _⟩ := h
    rfl
  · obtain ⟨a, n, lim, Av, rfl, S, hAv, hn, l1, l2, q⟩ := h
    refine ⟨_, (pss_cons (ps_if (PW.pt (pw_and (pt_cmpR op_lt (pe_ix (ixL K) (pv 0) pe_int (fun _ _ => rfl)) (pv 1) (nomark _)) (pw_and1 (pt_truth (pe_ix (ixL K) (pv 0) pe_int (fun _ _ => rfl)) (by intro _; rfl)))))
      (pss_cons (ps_set (i := 2) sc_law_draw.nd rfl (Or.inl rfl) (pe_ix (ixL K) (pe_ix (ixL K) (pv 0) pe_int (fun _ _ => rfl)) pe_int (fun _ _ => rfl)))
      (pss_cons (ps_asg (pe_slice sl_list (pe_ix (ixL K) (pv 0) pe_int (fun _ _ => rfl)) (po_some pe_int) po_none) (pg_sub (pv 0) pe_int set_list))
      (pss_one (ps_if (pt_cmpR op_ge (pv 2) (pe_op op_pow pe_int pe_int) (nomark _))
      (pss_one (ps_asg (pv 2) (pg_sub (pv 0) pe_int set_list)))
      (pss_one (ps_asg (pe_op op_mod (pe_callTy call_int1 (by rfl) T.z_int (by decide +kernel) (pa_cons (pe_op op_add (pe_op op_add (pe_op Lc.op_mulX (pe_ix (ixL K) (pv 0) pe_int (fun _ _ => rfl)) pe_int) (pe_op Lc.op_mulX (pv 2) pe_int)) pe_int) pa_nil)) pe_int) (pg_sub (pv 0) pe_int set_list)))))))
      pss_nil)
      (pss_cons (ps_if (pt_cmpR op_ge (pe_ix (ixL K) (pv 0) pe_int (fun _ _ => rfl)) (pv 1) (nomark _))
      (pss_cons (ps_set (i := 3) sc_law_draw.nd rfl (Or.inl rfl) (pe_op op_mod (pe_callTy call_int1 (by rfl) T.z_int (by decide +kernel) (pa_cons (pe_ix (ixL K) (pv 0) pe_int (fun _ _ => rfl)) pa_nil)) (pv 1)))
      (pss_cons (ps_asg (pe_op op_fdivW (pe_ix (ixL K) (pv 0) pe_int (fun _ _ => rfl)) (pv 1)) (pg_sub (pv 0) pe_int set_list))
      (pss_one (ps_ret (pv 3)))))
      pss_nil)
      (pss_cons (ps_asg (pe_op op_add (pe_ix (ixL K) (pv 0) pe_int (fun _ _ => rfl)) pe_int) (pg_sub (pv 0) pe_int set_list))
      (pss_cons (ps_set (i := 4) sc_law_draw.nd rfl (Or.inl rfl) (pe_op op_mod (pe_callTy call_int1 (by rfl) T.z_int (by decide +kernel) (pa_cons (pe_op op_add (pe_ix (ixL K) (pv 0) pe_int (fun _ _ => rfl)) (pe_op Lc.op_mulX (pe_ix (ixL K) (pv 0) pe_int (fun _ _ => rfl)) pe_int)) pa_nil)) pe_int))
      (pss_one (ps_ret (pe_op op_mod (pe_op op_mod (pe_callTy call_int1 (by rfl) T.z_int (by decide +kernel) (pa_cons (pe_op op_add (pe_op op_add (pe_op Lc.op_mulX (pv 4) (pv 4)) (pe_op Lc.op_mulX (pe_ix (ixL K) (pv 0) pe_int (fun _ _ => rfl)) pe_int)) (pe_ix (ixL K) (pv 0) pe_int (fun _ _ => rfl))) pa_nil)) pe_int) (pv 1)))))))), ?_⟩
    refine seq_cut (fun σ' H' => ∃ c, σ' = [some (.ref a), some (.int lim), c, none, none] ∧ SrcA H' a n Av ∧ But a H H') ?_ (fun K1 => ?_)
    · rintro σ' H' ⟨c, rfl, S', B'⟩
      obtain ⟨l, ns, x, y, z, ha, hl, hb, hlen, x0, xb, y0, y1, z0, z1, av⟩ := S'.ex
      have nla : l ≠ a := fun e => by
        subst e; rw [ha] at hl
        have e2 := HO.lst.inj (Option.some.inj hl)
        cases ns with
        | nil => exact nomatch e2
        | cons k r => exact nomatch (List.cons.inj e2).1
      refine ⟨.ref a, rfl, a, _, 1, .int x, rfl, rfl, SqL.of ha, atI_nat (j := 1) rfl, .int lim, rfl, x, lim, rfl, rfl, _, rfl, ite2 (fun e => ?_) (fun e => ?_)⟩
      · have e1 : lim ≤ x := of_decide_eq_true e
        refine ⟨.ref a, rfl, a, _, 1, .int x, rfl, rfl, SqL.of ha, atI_nat (j := 1) rfl, .inl ⟨x, rfl, .int lim, rfl, x, lim, rfl, rfl, (by show 0 < lim; omega), ?_⟩⟩
        refine ⟨.ref a, rfl, a, _, 1, .int x, rfl, rfl, SqL.of ha, atI_nat (j := 1) rfl, .int lim, rfl, x, lim, rfl, rfl, divX (by omega) (Nat.lt_of_lt_of_le (by omega : lim.natAbs < 2 ^ 64) (Nat.pow_le_pow_right (by decide) (by decide))), .ref a, rfl, a, _, 1, 1, rfl, rfl, ha, rfl, ?_⟩
        refine ⟨.int (x % lim), rfl, q _ _ (Int.emod_nonneg x (by omega)) (Int.emod_lt_of_pos x (by omega)) ?_ B'.upd⟩
        exact ⟨l, ns, x / lim, y, z, upd_same, (by rw [upd_ne nla]; exact hl), hb, hlen, Int.ediv_nonneg x0 (by omega), idiv_log x0 l1 xb, y0, y1, z0, by omega, av⟩
      · refine ⟨.ref a, rfl, a, _, 3, .int z, rfl, rfl, SqL.of ha, atI_nat (j := 3) rfl, z, 1, rfl, rfl, .ref a, rfl, a, _, 3, 3, rfl, rfl, ha, rfl, ?_⟩
        have ha2 : (upd H' a (.lst [.ref l, .int x, .int y, .int (z + 1)])) a = some (.lst [.ref l, .int x, .int y, .int (z + 1)]) := upd_same
        have fz : Few (z + 1) := few_le (b := 1000000) (by omega) (by omega) (by decide)
        refine ⟨.ref a, rfl, a, _, 2, .int y, rfl, rfl, SqL.of ha2, atI_nat (j := 2) rfl, .ref a, rfl, a, _, 3, .int (z + 1), rfl, rfl, SqL.of ha2, atI_nat (j := 3) rfl, z + 1, 40692, rfl, rfl, mulX fz (few_le (b := 40692) (by decide) (by decide) (by decide)), y, _, rfl, rfl, .inl ⟨_, rfl, _, _, rfl, rfl, (by show (0 : Int) < 2147483399; decide), ?_⟩⟩
        have m0 : 0 ≤ (y + (z + 1) * 40692) % 2147483399 := Int.emod_nonneg _ (by decide)
        have m1 : (y + (z + 1) * 40692) % 2147483399 < 2147483399 := Int.emod_lt_of_pos _ (by decide)
        have fm := few_le (b := 2147483399) m0 (Int.le_of_lt m1) (by decide)
        refine ⟨_, rfl, _, rfl, _, _, rfl, rfl, mulX fm fm, .ref a, rfl, a, _, 3, .int (z + 1), rfl, rfl, SqL.of ha2, atI_nat (j := 3) rfl, z + 1, 3791, rfl, rfl, mulX fz (few_le (b := 3791) (by decide) (by decide) (by decide)), _, _, rfl, rfl, .ref a, rfl, a, _, 2, .int y, rfl, rfl, SqL.of ha2, atI_nat (j := 2) rfl, _, y, rfl, rfl, .inl ⟨_, rfl, _, _, rfl, rfl, (by show (0 : Int) < 2147483647; decide), .int lim, rfl, _, lim, rfl, rfl, (by show 0 < lim; omega), ?_⟩⟩
        refine q _ _ (Int.emod_nonneg _ (by omega)) (Int.emod_lt_of_pos _ (by omega)) ?_ B'.upd
        exact ⟨l, ns, x, y, z + 1, upd_same, (by rw [upd_ne nla]; exact hl), hb, hlen, x0, xb, y0, y1, by omega, by omega, av⟩
    · obtain ⟨l, ns, x, y, z, ha, hl, hb, hlen, x0, xb, y0, y1, z0, z1, av⟩ := S.ex
      refine ⟨.ref a, rfl, a, _, 1, .int x, rfl, rfl, SqL.of ha, atI_nat (j := 1) rfl, .int lim, rfl, x, lim, rfl, rfl, _, rfl, ite2 (fun e => ?_) (fun e => ?_)⟩
      · refine ⟨.ref a, rfl, a, _, 0, .ref l, rfl, rfl, SqL.of ha, atI_nat (j := 0) rfl, _, .inl ⟨_, SqL.of hl, rfl⟩, ?_⟩
        cases ns with
        | nil => exact iteF (K1 _ _ ⟨none, rfl, S, But.refl _ _⟩)
        | cons k r =>
          refine iteT ?_
          refine ⟨.ref a, rfl, a, _, 0, .ref l, rfl, rfl, SqL.of ha, atI_nat (j := 0) rfl, l, _, 0, .int k, rfl, rfl, SqL.of hl, atI_nat (j := 0) rfl, ?_⟩
          refine ⟨.ref a, rfl, a, _, 0, .ref l, rfl, rfl, SqL.of ha, atI_nat (j := 0) rfl, 1, rfl, l, _, rfl, SqL.of hl, fun p hp => ?_⟩
          have npa : a ≠ p := ne_of_none ha hp
          have ha1 : (upd H p (.lst (cutV ((k :: r).map V.int) (some 1) none))) a = some (.lst [.ref l, .int x, .int y, .int z]) := by
            rw [upd_ne npa]; exact ha
          refine ⟨.ref a, rfl, a, _, 0, 0, rfl, rfl, ha1, rfl, ?_⟩
          have ec : cutV ((k :: r).map V.int) (some 1) none = r.map V.int := by rw [cut1]; rfl
          rw [ec]
          have ha2 : (upd (upd H p (.lst (r.map V.int))) a (.lst [.ref p, .int x, .int y, .int z])) a = some (.lst [.ref p, .int x, .int y, .int z]) := upd_same
          have hp2 : (upd (upd H p (.lst (r.map V.int))) a (.lst [.ref p, .int x, .int y, .int z])) p = some (.lst (r.map V.int)) := by
            rw [upd_ne npa.symm]; exact upd_same
          have B2 : But a H (upd (upd H p (.lst (r.map V.int))) a (.lst [.ref p, .int x, .int y, .int z])) := (Same.but (same_upd hp)).upd
          have hk : k.natAbs.log2 ≤ 1048576 := hb k List.mem_cons_self
          have hr' : ∀ j ∈ r, j.natAbs.log2 ≤ 1048576 := fun j hj => hb j (List.mem_cons_of_mem _ hj)
          have hlr : r.length ≤ 63 := by rw [List.length_cons] at hlen; omega
          refine ⟨.int k, rfl, 10, 18, rfl, rfl, ⟨by decide, by decide, by decide⟩, k, _, rfl, rfl, _, rfl, ite2 (fun e => ?_) (fun e => ?_)⟩
          · have e1 : (10 : Int) ^ 18 ≤ k := of_decide_eq_true e
            refine ⟨.int k, rfl, .ref a, rfl, a, _, 1, 1, rfl, rfl, ha2, rfl, ?_⟩
            refine K1 _ _ ⟨some (.int k), rfl, ⟨p, r, k, y, z, upd_same, ?_, hr', hlr, by omega, hk, y0, y1, z0, z1, fun D hD e => hAv D hD (e ▸ hp)⟩, B2.upd⟩
            rw [upd_ne npa.symm]; exact hp2
          · refine ⟨.ref a, rfl, a, _, 2, .int y, rfl, rfl, SqL.of ha2, atI_nat (j := 2) rfl, y, 48271, rfl, rfl, mulX (few_le (b := 2147483647) y0 (by omega) (by decide)) (few_le (b := 48271) (by decide) (by decide) (by decide)), .int k, rfl, k, 69621, rfl, rfl, mulX (few_bits hk) (few_le (b := 69621) (by decide) (by decide) (by decide)), _, _, rfl, rfl, _, 7, rfl, rfl, .inl ⟨_, rfl, _, _, rfl, rfl, (by show (0 : Int) < 2147483647; decide), .ref a, rfl, a, _, 2, 2, rfl, rfl, ha2, rfl, ?_⟩⟩
            refine K1 _ _ ⟨some (.int k), rfl, ⟨p, r, x, _, z, upd_same, ?_, hr', hlr, x0, xb, Int.emod_nonneg _ (by decide), Int.emod_lt_of_pos _ (by decide), z0, z1, fun D hD e => hAv D hD (e ▸ hp)⟩, B2.upd⟩
            rw [upd_ne npa.symm]; exact hp2
      · exact iteF (K1 _ _ ⟨none, rfl, S, But.refl _ _⟩)
end

section
variable {P : Program} {w : World} {K : PySem.W.Frag} {mg : Str → Option Value} {base : Heap}
theorem ok_is_whole (T : Txt K mg) : FnOk P w K mg base CX0 1 T.a_is_whole T.d_is_whole ["thing", "low", "high"] (spWhole K) := by
  refine T.F_is_whole.ok sc_is_whole (fun vs H Q E h => ?_) (fun cdv A outer s H vs Q E hr h => ?_)
  · obtain ⟨x, lo, hi, n, rfl, _⟩ := h
    rfl
  · obtain ⟨x, lo, hi, n, rfl, hx, q⟩ := h
    refine ⟨_, (pss_one (ps_ret (pe_and (pe_callB call_isi (by rfl) T.z_isinstance (by decide +kernel) (pa_cons (pv 0) (pa_cons (pe_bltn (v := .ty "int") (by rfl) T.z_int (by decide +kernel) rfl) pa_nil))) (pe_and (pe_not (pe_callB call_isi (by rfl) T.z_isinstance (by decide +kernel) (pa_cons (pv 0) (pa_cons (pe_bltn (v := .ty "bool") (by rfl) T.z_bool (by decide +kernel) rfl) pa_nil)))) (pe_one (pe_chain op_le op_le (pv 1) (pv 0) (pv 2))))))), ?_⟩
    refine ⟨x, rfl, x, _, _, _, _, rfl, .ty _, hx.ty, hx.int?, _, rfl, ?_⟩
    cases x with
    | int i =>
      refine iteT ⟨_, rfl, _, _, _, _, _, rfl, .ty _, hx.ty, hx.bool?, _, rfl, _, rfl, iteT ?_⟩
      refine ⟨_, rfl, _, rfl, lo, i, rfl, rfl, _, rfl, ite2 (fun e => ?_) (fun e => ?_)⟩
      · refine ⟨_, rfl, i, hi, rfl, rfl, ?_⟩
        have e2 : wholeV (.int i) lo hi = decide (i ≤ hi) := by
          show (decide (lo ≤ i) && decide (i ≤ hi)) = _
          rw [e, Bool.true_and]
        rw [e2] at q
        exact q
      · have e2 : wholeV (.int i) lo hi = false := by
          show (decide (lo ≤ i) && decide (i ≤ hi)) = _
          rw [Bool.eq_false_iff.mpr e, Bool.false_and]
        rw [e2] at q
        exact q
    | bl b => exact iteT ⟨_, rfl, _, _, _, _, _, rfl, .ty _, hx.ty, hx.bool?, _, rfl, _, rfl, iteF q⟩
    | non => exact iteF q
    | str z => exact iteF q
    | byt z => cases hx
    | flt z => cases hx
    | ref z => exact iteF q
    | ty z => cases hx
end

section
theorem isiK {X : Cx} (K : PySem.W.Frag) (h : X.K = K := by rfl) : CallR X (.builtin "isinstance") (rIsi K) := h ▸ call_isi
theorem strs_of {H : Hp} {p : Addr} {W : List Str} : ∀ {xs : List V} {ds : List Dt}, Obs H p xs ds → (ds.all fun x => wordD x W) = true → ∃ ws : List Str, xs = ws.map V.str ∧ ds = ws.map Dt.str
  | _, _, .nil, _ => ⟨[], rfl, rfl⟩
  | _, _, .cons h t, e => by
    rw [List.all_cons, Bool.and_eq_true] at e
    obtain ⟨ws, e1, e2⟩ := strs_of t e.2
    cases h with
    | str s => exact ⟨s :: ws, by rw [e1]; rfl, by rw [e2]; rfl⟩
    | _ => exact nomatch e.1
theorem shows_strs (ws : List Str) : (ws.map Dt.str).countP isShow = ws.countP fun y => decide (y = ("show" : Str)) := by
  rw [List.countP_map]; rfl
theorem row_len {d : Dt} {lo hi : Int} (h : rowD d lo hi = true) : ∃ z ds, d = .tup z ds ∧ lo ≤ (ds.length : Int) ∧ (ds.length : Int) ≤ hi := by
  cases d with
  | tup z ds =>
    have h2 : (decide (lo ≤ (ds.length : Int)) && decide ((ds.length : Int) ≤ hi)) = true := h
    rw [Bool.and_eq_true] at h2
    exact ⟨z, ds, rfl, of_decide_eq_true h2.1, of_decide_eq_true h2.2⟩
  | _ => exact nomatch h
theorem tup_ob {H : Hp} {p : Addr} {v : V} {z : Bool} {ds : List Dt} (h : Ob H p v (.tup z ds)) : ∃ a xs, v = .ref a ∧ Tp H a z xs ∧ a ≠ p ∧ Obs H p xs ds := by
  cases h with
  | tup e ne all => exact ⟨_, _, rfl, e, ne, all⟩
theorem len4 {α : Type} {l : List α} (h : l.length = 4) : ∃ a b c d, l = [a, b, c, d] := by
  match l, h with
  | [a, b, c, d], _ => exact ⟨a, b, c, d, rfl⟩
theorem len5 {α : Type} {l : List α} (h : l.length = 5) : ∃ a b c d e, l = [a, b, c, d, e] := by
  match l, h with
  | [a, b, c, d, e], _ => exact ⟨a, b, c, d, e, rfl⟩
theorem len6 {α : Type} {l : List α} (h : l.length = 6) : ∃ a b c d e f, l = [a, b, c, d, e, f] := by
  match l, h with
  | [a, b, c, d, e, f], _ => exact ⟨a, b, c, d, e, f, rfl⟩
theorem obs_cons {H : Hp} {p : Addr} {xs : List V} {d : Dt} {ds : List Dt} (h : Obs H p xs (d :: ds)) : ∃ v vs, xs = v :: vs ∧ Ob H p v d ∧ Obs H p vs ds := by
  cases h with
  | cons h t => exact ⟨_, _, rfl, h, t⟩
theorem obs_nil {H : Hp} {p : Addr} {xs : List V} (h : Obs H p xs []) : xs = [] := by
  cases h; rfl
theorem obs4 {H : Hp} {p : Addr} {xs : List V} {a b c d : Dt} (h : Obs H p xs [a, b, c, d]) : ∃ v1 v2 v3 v4, xs = [v1, v2, v3, v4] ∧ Ob H p v1 a ∧ Ob H p v2 b ∧ Ob H p v3 c ∧ Ob H p v4 d := by
  obtain ⟨v1, _, rfl, o1, h⟩ := obs_cons h
  obtain ⟨v2, _, rfl, o2, h⟩ := obs_cons h
  obtain ⟨v3, _, rfl, o3, h⟩ := obs_cons h
  obtain ⟨v4, _, rfl, o4, h⟩ := obs_cons h
  have z := obs_nil h
  subst z
  exact ⟨v1, v2, v3, v4, rfl, o1, o2, o3, o4⟩
theorem obs5 {H : Hp} {p : Addr} {xs : List V} {a b c d e : Dt} (h : Obs H p xs [a, b, c, d, e]) : ∃ v1 v2 v3 v4 v5, xs = [v1, v2, v3, v4, v5] ∧ Ob H p v1 a ∧ Ob H p v2 b ∧ Ob H p v3 c ∧ Ob H p v4 d ∧ Ob H p v5 e := by
  obtain ⟨v1, _, rfl, o1, h⟩ := obs_cons h
  obtain ⟨v2, v3, v4, v5, rfl, h2⟩ := obs4 h
  exact ⟨v1, v2, v3, v4, v5, rfl, o1, h2⟩
theorem obs6 {H : Hp} {p : Addr} {xs : List V} {a b c d e f : Dt} (h : Obs H p xs [a, b, c, d, e, f]) : ∃ v1 v2 v3 v4 v5 v6, xs = [v1, v2, v3, v4, v5, v6] ∧ Ob H p v1 a ∧ Ob H p v2 b ∧ Ob H p v3 c ∧ Ob H p v4 d ∧ Ob H p v5 e ∧ Ob H p v6 f := by
  obtain ⟨v1, _, rfl, o1, h⟩ := obs_cons h
  obtain ⟨v2, v3, v4, v5, v6, rfl, h2⟩ := obs5 h
  exact ⟨v1, v2, v3, v4, v5, v6, rfl, o1, h2⟩
/-- all([test of x for x in t]), t handed by tl -/
theorem all_comp2 {K : PySem.W.Frag} {xs : List V} {ds : List Dt} {i0 : Nat} {tl te : TE} {σ : L2.St} {H : Hp} {Q : VK} {p : Addr} (f : Dt → Bool) (htl : ∀ R : VK, (∀ a H1, Same H H1 → H1 a = some (.tup xs) → R (.ref a) H1) → tl σ H R) (hO : Obs H p xs ds) (hl : xs.length ≤ 1000)
    (hte : ∀ (x : V) (d : Dt) (H' : Hp) (R : VK), Same H H' → Ob H' p x d → (∀ H2, Same H' H2 → R (.bl (f d)) H2) → te ((wipe σ [i0]).set i0 (some x)) H' R)
    (hw : ∀ x : V, wipe ((wipe σ [i0]).set i0 (some x)) [i0] = wipe σ [i0])
    (q : ∀ H', Same H H' → Q (.bl (ds.all f)) H') : tCB (rAll K) (tCons (tLc (iTup K tl) (gName i0) tYes te [i0]) tNil) σ H Q := by
  refine htl _ fun a H1 kk hT => ⟨a, rfl, ⟨_, SqT.of hT⟩, fun D hD => ?_⟩
  have len := hO.len
  refine lc_tup (K := K) (a := a) (xs := xs) (fun i H' => Same H1 H' ∧ H' D = some (.lst (((ds.take i).map f).map V.bl))) ⟨same_upd hD, upd_same⟩ (fun i H' _ h => SqT.of (h.1 _ _ hT)) ?_ ?_
  · rintro i x H' hx ⟨k, e⟩
    obtain ⟨d, hd, ob⟩ := (hO.same (kk.trans k)).get hx
    refine ⟨hw x, hte x d H' _ (kk.trans k) ob fun H2 k2 => ⟨_, k2 _ _ e, ?_, fun c o hc => ?_, ?_⟩⟩
    · rw [List.length_map, List.length_map, List.length_take]
      exact Nat.lt_of_le_of_lt (show _ ≤ 1000 by omega) (by decide)
    · rw [upd_ne (ne_of_none hc hD)]; exact k2 _ _ (k c o hc)
    · rw [upd_same, List.take_add_one, hd, List.map_append, List.map_append]; rfl
  · rintro H' ⟨k, e⟩
    rw [len, List.take_length] at e
    refine ⟨D, _, rfl, SqL.of e, ?_⟩
    have e2 : (ds.map f).all id = ds.all f := by rw [List.all_map]; rfl
    rw [e2]
    exact q H' (kk.trans k)
variable {P : Program} {w : World} {K : PySem.W.Frag} {mg : Str → Option Value} {base : Heap}
theorem ok_is_row (T : Txt K mg) : FnOk P w K mg base CX0 1 T.a_is_row T.d_is_row ["thing", "low", "high"] spRow := by
  refine T.F_is_row.ok sc_is_row (fun vs H Q E h => ?_) (fun cdv A outer s H vs Q E hr h => ?_)
  · obtain ⟨p, x, d, lo, hi, rfl, _⟩ := h
    rfl
  · obtain ⟨p, x, d, lo, hi, rfl, ob, q⟩ := h
    refine ⟨_, (pss_one (ps_ret (pe_and (pe_callB call_isi (by rfl) T.z_isinstance (by decide +kernel) (pa_cons (pv 0) (pa_cons (pe_bltn (v := .ty "tuple") (by rfl) T.z_tuple (by decide +kernel) rfl) pa_nil))) (pe_one (pe_chain op_le op_le (pv 1) (pe_callB call_len_seq (by rfl) T.z_len (by decide +kernel) (pa_cons (pv 0) pa_nil)) (pv 2)))))), ?_⟩
    refine ⟨x, rfl, x, _, _, _, _, rfl, .ty _, (ob.arg (K := K)).ty, kit_t d, _, rfl, ?_⟩
    cases ob with
    | @tup a z xs ds e ne all =>
      have len := all.len
      refine iteT ⟨_, rfl, _, rfl, _, _, rfl, .inr e.sq, lo, _, rfl, rfl, _, rfl, ite2 (fun h1 => ?_) (fun h1 => ?_)⟩
      · refine ⟨_, rfl, _, hi, rfl, rfl, ?_⟩
        have e2 : rowD (.tup z ds) lo hi = decide ((xs.length : Int) ≤ hi) := by
          show (decide (lo ≤ (ds.length : Int)) && decide ((ds.length : Int) ≤ hi)) = _
          rw [← len, h1, Bool.true_and]
        rw [e2] at q
        exact q
      · have e2 : rowD (.tup z ds) lo hi = false := by
          show (decide (lo ≤ (ds.length : Int)) && decide ((ds.length : Int) ≤ hi)) = _
          rw [← len, Bool.eq_false_iff.mpr h1, Bool.false_and]
        rw [e2] at q
        exact q
    | _ => exact iteF q
theorem ok_is_counts (T : Txt K mg) : FnOk P w K mg base CX0 2 T.a_is_counts T.d_is_counts ["thing"] (spIs (fun _ => True) countsD) := by
  refine T.F_is_counts.ok sc_is_counts (fun vs H Q E h => ?_) (fun cdv A outer s H vs Q E hr h => ?_)
  · obtain ⟨p, x, d, rfl, _⟩ := h
    rfl
  · obtain ⟨p, x, d, rfl, ob, fz, q⟩ := h
    refine ⟨_, (pss_one (ps_ret (pe_and (pe_call (ok_is_row T) (hr.mono (by decide)) rfl T.g_is_row T.F_is_row.kp T.b_is_row .nil pass0 (pa_cons (pv 0) (pa_cons pe_int (pa_cons pe_int pa_nil)))) (pe_one (pe_callB (cr_all rfl) (by rfl) T.z_all (by decide +kernel) (pa_cons (pe_lc (own := [("count", 1)]) (g := gName 1) (tt := tYes) (by rfl) sc_is_counts.nd (pi_tup (pv 0)) (blkOk_by (own := [("count", 1)]) (N := ["thing", "count"]) (sc := defScope s_is_counts) (by decide +kernel)) (fun _ _ _ _ _ => (pg_name (i := 1) sc_is_counts.nd rfl (Or.inl rfl))) (fun _ _ _ _ _ => pts_nil) (fun _ _ _ _ _ => (pe_call (ok_is_whole T) (hr.mono (by decide)) rfl T.g_is_whole T.F_is_whole.kp T.b_is_whole .nil pass0 (pa_cons (pv 1) (pa_cons pe_int (pa_cons (pe_glob rfl T.g_GREATEST_OF_COUNTS T.r_GREATEST_OF_COUNTS) pa_nil)))))) pa_nil)))))), ?_⟩
    refine ⟨x, rfl, p, x, d, 2, 3, rfl, ob, _, rfl, ?_⟩
    cases e : rowD d 2 3 with
    | false =>
      have e2 : countsD d = false := by unfold countsD; rw [e]; rfl
      rw [e2] at q
      exact iteF (q _ fun _ _ z => z)
    | true =>
      obtain ⟨z, ds, rfl, l1, l2⟩ := row_len e
      obtain ⟨a, xs, rfl, ea, ne, all⟩ := tup_ob ob
      have e2 : countsD (.tup z ds) = ds.all fun x => wholeD x 1 4 := by unfold countsD; rw [e]; rfl
      rw [e2] at q
      have ll := all.len
      refine iteT (all_comp (K := K) (fun x => wholeD x 1 4) rfl ea all (by omega) (fun y dy H' R k oy h => ?_) (fun _ => rfl) q)
      have r := h _ fun _ _ z => z
      rw [← whole_ob oy] at r
      exact ⟨y, rfl, y, 1, 4, _, rfl, oy.arg, r⟩
end

/-! ### courses, renamings: what they are -/
def rowOf : Dt → List Int
  | .tup _ ds => ds.map Lc.intD
  | _ => []
theorem rowOf_int (ns : List Int) : rowOf (intT' ns) = ns := by
  show (ns.map Dt.int).map Lc.intD = ns
  rw [List.map_map]
  exact List.map_id ns
def snocR (r : List Int) (l : Nat) : List Int := r ++ [(l : Int)]
def coursesM (cs : List Int) : List (List Int) := cs.foldl (fun acc c => acc.flatMap fun r => (List.range c.toNat).map (snocR r)) [[]]
def roomM (cs : List Int) (old : Nat) : Int := minL (cs.filter fun c => decide ((old : Int) < c))
def renStep (room : Nat) (acc : List (List Int)) : List (List Int) := acc.flatMap fun r => ((List.range room).filter fun (j : Nat) => !decide ((j : Int) ∈ r)).map (snocR r)
def renM (cs : List Int) : List (List Int) := (List.range (maxL cs).toNat).foldl (fun acc old => renStep (roomM cs old).toNat acc) [[]]
def renamedM (c ls : List Int) : List Int := c.map fun l => ls.getD l.toNat 0
def minRows : List (List Int) → List Int
  | [] => []
  | x :: r => minR x r
def leastM (cs c : List Int) : List Int := minRows ((renM cs).map fun ls => renamedM c ls)
def smallM (cs : List Int) : List (List Int) := (coursesM cs).filter fun c => decide (c = leastM cs c)
/-- good counts -/
structure Cnt (cs : List Int) : Prop where
  l1 : 2 ≤ cs.length
  l2 : cs.length ≤ 3
  all : ∀ c ∈ cs, 1 ≤ c ∧ c ≤ 4
def rowsT (rows : List (List Int)) : Dt := .lst (rows.map intT')
def allCnt : List (List Int) := (coursesM [4, 4] ++ coursesM [4, 4, 4]).map fun r => r.map (· + 1)
theorem mem_coursesM_snoc (cs : List Int) (c : Int) : coursesM (cs ++ [c]) = (coursesM cs).flatMap fun r => (List.range c.toNat).map (snocR r) := by
  unfold coursesM; rw [List.foldl_append]; rfl
theorem cnt_mem {cs : List Int} (h : Cnt cs) : cs ∈ allCnt := by
  obtain ⟨h1, h2, h3⟩ := h
  have key : ∀ c : Int, 1 ≤ c ∧ c ≤ 4 → c = 1 ∨ c = 2 ∨ c = 3 ∨ c = 4 := fun c _ => by omega
  match cs, h1, h2, h3 with
  | [a, b], _, _, h =>
    rcases key a (h a (by simp)) with rfl | rfl | rfl | rfl <;> rcases key b (h b (by simp)) with rfl | rfl | rfl | rfl <;> decide +kernel
  | [a, b, c], _, _, h =>
    rcases key a (h a (by simp)) with rfl | rfl | rfl | rfl <;> rcases key b (h b (by simp)) with rfl | rfl | rfl | rfl <;> rcases key c (h c (by simp)) with rfl | rfl | rfl | rfl <;> decide +kernel
  | a :: b :: c :: d :: r, _, h2, _ => simp at h2
/-- a fact of all counts, by the kernel -/
theorem cnt_all {p : List Int → Bool} (h : allCnt.all p = true) {cs : List Int} (c : Cnt cs) : p cs = true := List.all_eq_true.mp h cs (cnt_mem c)
def wellOk (cs : List Int) : Bool :=
  (coursesM cs).length ≤ 64 && (renM cs).length ≤ 24 && !(renM cs).isEmpty && (renM cs).all (fun ls => ls.length = (maxL cs).toNat) && (coursesM cs).all (fun c => c.all fun l => decide (0 ≤ l) && decide (l.toNat < (maxL cs).toNat)) &&
  (List.range (maxL cs).toNat).all (fun old => decide (0 ≤ roomM cs old) && decide (roomM cs old ≤ 4) && !(cs.filter fun c => decide ((old : Int) < c)).isEmpty) && decide (1 ≤ maxL cs) && decide (maxL cs ≤ 4) &&
  (List.range (cs.length + 1)).all (fun i => (coursesM (cs.take i)).length ≤ 64 && (coursesM (cs.take i)).all fun r => r.length ≤ 3) && (List.range ((maxL cs).toNat + 1)).all (fun i => ((List.range i).foldl (fun acc old => renStep (roomM cs old).toNat acc) [[]]).length ≤ 24 && ((List.range i).foldl (fun acc old => renStep (roomM cs old).toNat acc) [[]]).all fun r => r.length = i)
theorem well_all : allCnt.all wellOk = true := by decide +kernel
structure Well (cs : List Int) : Prop where
  c64 : (coursesM cs).length ≤ 64
  r24 : (renM cs).length ≤ 24
  rne : renM cs ≠ []
  rl : ∀ ls ∈ renM cs, ls.length = (maxL cs).toNat
  cl : ∀ c ∈ coursesM cs, ∀ l ∈ c, 0 ≤ l ∧ l.toNat < (maxL cs).toNat
  room : ∀ old, old < (maxL cs).toNat → 0 ≤ roomM cs old ∧ roomM cs old ≤ 4 ∧ (cs.filter fun c => decide ((old : Int) < c)) ≠ []
  m1 : 1 ≤ maxL cs
  m4 : maxL cs ≤ 4
  cpre : ∀ i, i ≤ cs.length → (coursesM (cs.take i)).length ≤ 64 ∧ ∀ r ∈ coursesM (cs.take i), r.length ≤ 3
  rpre : ∀ i, i ≤ (maxL cs).toNat → ((List.range i).foldl (fun acc old => renStep (roomM cs old).toNat acc) [[]]).length ≤ 24 ∧ ∀ r ∈ (List.range i).foldl (fun acc old => renStep (roomM cs old).toNat acc) [[]], r.length = i
theorem well {cs : List Int} (h : Cnt cs) : Well cs := by
  have w := cnt_all well_all h
  unfold wellOk at w
  simp only [Bool.and_eq_true, decide_eq_true_eq, List.all_eq_true, List.mem_range, Bool.not_eq_true', List.isEmpty_eq_false_iff] at w
  obtain ⟨⟨⟨⟨⟨⟨⟨⟨⟨w1, w2⟩, w3⟩, w4⟩, w5⟩, w6⟩, w7⟩, w8⟩, w9⟩, w10⟩ := w
  refine ⟨w1, w2, w3, w4, w5, fun old ho => ?_, w7, w8, fun i hi => w9 i (by omega), fun i hi => ?_⟩
  · obtain ⟨⟨a, b⟩, c⟩ := w6 old ho
    exact ⟨a, b, c⟩
  · exact w10 i (by omega)
/-! ### promises -/
def spRows (f : List Int → List (List Int)) : Sp := fun vs H Q _ => ∃ (S : AS) (x : V) (cs : List Int), vs = [x] ∧ Oc H S x (intT' cs) ∧ Cnt cs ∧ Lv H S ∧ ∀ v H', Same H H' → Oc H' S v (rowsT (f cs)) → Q v H'
def spRenamed : Sp := fun vs H Q _ => ∃ (S : AS) (x y : V) (c ls : List Int), vs = [x, y] ∧ Oc H S x (intT' c) ∧ Oc H S y (intT' ls) ∧ (∀ l ∈ c, 0 ≤ l ∧ l.toNat < ls.length) ∧ c.length ≤ 1000 ∧ Lv H S ∧ ∀ v H', Same H H' → Oc H' S v (intT' (renamedM c ls)) → Q v H'
/-- the check of counts -/
def spChkCnt (exc : String → Addr) : Sp := fun vs H Q E => ∃ (p : Addr) (x : V) (d : Dt), vs = [x] ∧ Ob H p x d ∧ ∀ H', Same H H' → (countsD d = false → E (.ref (exc "BadCounts")) none H') ∧ (countsD d = true → Q .non H')
theorem counts_cnt {cs : List Int} (h : Cnt cs) : countsD (intT' cs) = true := by
  unfold countsD
  have e1 : rowD (intT' cs) 2 3 = true := by
    show (decide ((2 : Int) ≤ ((cs.map Dt.int).length : Int)) && decide (((cs.map Dt.int).length : Int) ≤ 3)) = true
    rw [List.length_map, decide_eq_true (by have := h.l1; omega), decide_eq_true (by have := h.l2; omega)]; rfl
  rw [e1, Bool.true_and, List.all_eq_true]
  intro d hd
  obtain ⟨c, hc, rfl⟩ := List.mem_map.mp (show d ∈ cs.map Dt.int from hd)
  obtain ⟨a, b⟩ := h.all c hc
  show (decide (1 ≤ c) && decide (c ≤ 4)) = true
  rw [decide_eq_true a, decide_eq_true b]; rfl
theorem rowOf_conv (f : List Int → List Nat) (rows : List (List Int)) (n : Nat) (p : List Int → Nat → Bool) :
    ((rows.map intT').flatMap fun d => (upto n).filterMap fun e => if p (rowOf d) (Lc.intD e).toNat = true then some (intT' (rowOf d ++ [Lc.intD e])) else none) =
    (rows.flatMap fun r => ((List.range n).filter (p r)).map (snocR r)).map intT' := by
  rw [List.flatMap_map, List.map_flatMap]
  congr 1
  funext r
  rw [rowOf_int]
  unfold upto
  rw [List.filterMap_map, List.map_map]
  induction List.range n with
  | nil => rfl
  | cons j t ih =>
    rw [List.filterMap_cons, List.filter_cons]
    have e : ((fun e => if p r (Lc.intD e).toNat = true then some (intT' (r ++ [Lc.intD e])) else none) ∘ fun (i : Nat) => Dt.int i) j = if p r j = true then some (intT' (snocR r j)) else none := by
      show (if p r ((j : Int)).toNat = true then _ else _) = _
      rw [Int.toNat_natCast]; rfl
    rw [e]
    by_cases h : p r j = true
    · rw [if_pos h, if_pos h, List.map_cons]
      exact congrArg _ ih
    · rw [if_neg h, if_neg h]
      exact ih
section
variable {P : Program} {w : World} {K : PySem.W.Frag} {mg : Str → Option Value} {base : Heap}
theorem ok_check_counts (T : Txt K mg) : FnOk P w K mg base (L2.CX P w) 3 T.a_check_counts T.d_check_counts ["counts"] (spChkCnt T.exc) := by
  refine T.F_check_counts.okX sc_check_counts (fun vs H Q E h => ?_) (fun cdv A outer s H vs Q E hr h => ?_)
  · obtain ⟨p, x, d, rfl, _⟩ := h
    rfl
  · obtain ⟨p, x, d, rfl, ob, q⟩ := h
    refine ⟨_, (pss_one (ps_if (pt_not (pt_val (pe_call (ok_is_counts T) (hr.mono (by decide)) rfl T.g_is_counts T.F_is_counts.kp T.b_is_counts .nil pass0 (pa_cons (pv 0) pa_nil))))
      (pss_one (ps_raise rfl (takes_of rfl rfl rfl rfl) (pmk_own PySem.F.excBase_ValueError T.x_BadCounts T.g_BadCounts T.k_BadCounts (raises_own T.p_BadCounts T.t_BadCounts) rfl)))
      pss_nil)), ?_⟩
    refine ⟨x, rfl, p, x, d, rfl, ob, trivial, fun H' k => ⟨_, rfl, ?_⟩⟩
    obtain ⟨q1, q2⟩ := q H' k
    cases e : countsD d with
    | false => exact iteT (q1 e)
    | true => exact iteF (q2 e)
theorem ok_renamed (T : Txt K mg) : FnOk P w K mg base CX0 1 T.a_renamed T.d_renamed ["course", "lanes"] spRenamed := by
  refine T.F_renamed.ok sc_renamed (fun vs H Q E h => ?_) (fun cdv A outer s H vs Q E hr h => ?_)
  · obtain ⟨S, x, y, c, ls, rfl, _⟩ := h
    rfl
  · obtain ⟨S, x, y, c, ls, rfl, ox, oy, hl, hz, lv, q⟩ := h
    refine ⟨_, (pss_one (ps_ret (pe_tupleOfF (by rfl) T.z_tuple (pe_lc (own := [("lane", 2)]) (g := gName 2) (tt := tYes) (by rfl) sc_renamed.nd (pi_tup (pv 0)) (blkOk_by (own := [("lane", 2)]) (N := ["course", "lanes", "lane"]) (sc := defScope s_renamed) (by decide +kernel)) (fun _ _ _ _ _ => (pg_name (i := 2) sc_renamed.nd rfl (Or.inl rfl))) (fun _ _ _ _ _ => pts_nil) (fun _ _ _ _ _ => (pe_ix (ixT K) (pv 1) (pv 2) (fun _ _ => rfl))))))), ?_⟩
    have d1 : DE (tLc (iTup K (tVar 0)) (gName 2) tYes (tOp (rIxT K) (tVar 1) (tVar 2)) [2]) [some x, some y, none] H S (.lst ((c.map Dt.int).filterMap fun d => some (.int (ls.getD (Lc.intD d).toNat 0)))) := by
      refine D_lcT (D_var rfl ox) (by rw [List.length_map]; omega) fun v d H1 S1 hd lf od => ?_
      obtain ⟨l, hl2, rfl⟩ := List.mem_map.mp hd
      have e := od.int_inv
      subst e
      obtain ⟨l0, l1⟩ := hl l hl2
      obtain ⟨n, rfl⟩ : ∃ n : Nat, l = n := ⟨l.toNat, by omega⟩
      rw [Int.toNat_natCast] at l1
      refine turn_map rfl lf.live (D_ixT (D_var rfl (lf.ob oy)) (D_var rfl od) ?_)
      rw [List.getElem?_map, List.getElem?_eq_getElem l1]
      show some (Dt.int ls[n]) = some (.int (ls.getD ((n : Int)).toNat 0))
      rw [Int.toNat_natCast, List.getD_eq_getElem?_getD, List.getElem?_eq_getElem l1]; rfl
    refine S_ret (D_tupleOf d1) lv fun v H2 k o => q v H2 k ?_
    have e : (c.map Dt.int).filterMap (fun d => some (Dt.int (ls.getD (Lc.intD d).toNat 0))) = (renamedM c ls).map Dt.int := by
      unfold renamedM
      rw [List.filterMap_map, List.map_map]
      exact List.filterMap_eq_map ▸ rfl
    rw [e] at o
    exact o
theorem ok_courses_of (T : Txt K mg) : FnOk P w K mg base CX0 1 T.a_courses_of T.d_courses_of ["counts"] (spRows coursesM) := by
  refine T.F_courses_of.ok sc_courses_of (fun vs H Q E h => ?_) (fun cdv A outer s H vs Q E hr h => ?_)
  · obtain ⟨S, x, cs, rfl, _⟩ := h
    rfl
  · obtain ⟨S, x, cs, rfl, ox, hc, lv, q⟩ := h
    have wl := well hc
    refine ⟨_, (pss_cons (ps_set (i := 1) sc_courses_of.nd rfl (Or.inl rfl) (pe_lst (pa_cons (pe_tupF pa_nil) pa_nil)))
      (pss_cons (ps_for PassesOwn.never rfl (pi_tup (pv 0)) (pg_name (i := 2) sc_courses_of.nd rfl (Or.inr rfl))
      (pss_one (ps_setLc2 (i := 1) (own := [("course", 3), ("lane", 4)]) (vs1 := [4]) (g := gName 3) (g1 := gName 4) (tt := tYes) (tt1 := tYes) (by rfl) sc_courses_of.nd rfl rfl (sw_true rfl rfl rfl (by decide +kernel)) (pi_list (pv 1)) (blkOk_by (own := [("course", 3), ("lane", 4)]) (N := ["counts", "courses", "count", "course", "lane"]) (sc := defScope s_courses_of) (by decide +kernel)) (by decide) (fun _ _ _ _ _ => (pg_name (i := 3) sc_courses_of.nd rfl (Or.inl rfl))) (fun _ _ _ _ _ => pts_nil) (fun _ _ _ _ _ => (pi_range1 rfl T.z_range (pa_cons (pv 2) pa_nil))) (fun _ _ _ _ _ => (pg_name (i := 4) sc_courses_of.nd rfl (Or.inl rfl))) (fun _ _ _ _ _ => pts_nil) (fun _ _ _ _ _ => (pe_op (op_catFK K) (pv 3) (pe_tupF (pa_cons (pv 4) pa_nil)))))))
      (pss_one (ps_ret (pv 1))))), ?_⟩
    have d0 : DE (tLst (tCons (tTupF tNil) tNil)) [some x, none, none, none, none] H S (rowsT (coursesM [])) := D_lst (D_cons (D_tup D_nil (by decide)) D_nil) (by decide)
    refine S_set d0 lv fun v H1 k1 o1 => ?_
    obtain ⟨a, xs, rfl, ea, na, oa⟩ := ox.tup_inv
    have ei := oa.ints
    subst ei
    refine ⟨_, rfl, a, rfl, ⟨_, (ea.same k1).sq⟩, for_tup (fun i σ' H' => ∃ (v : V) (c2 : Option V), σ' = [some (.ref a), some v, c2, none, none] ∧ Same H H' ∧ Oc H' S v (rowsT (coursesM (cs.take i)))) ⟨v, none, rfl, k1, o1⟩ (fun i σ' H' _ h => by
      obtain ⟨v, c2, rfl, k, o⟩ := h
      exact (ea.same k).sq) ?_ ?_⟩
    · rintro i y σ' H' hy ⟨v, c2, rfl, k, o⟩
      rw [List.getElem?_map] at hy
      obtain ⟨c, hc2, rfl⟩ := Option.map_eq_some_iff.mp hy
      obtain ⟨n, rfl⟩ : ∃ n : Nat, c = n := ⟨c.toNat, by have := (hc.all c (List.mem_of_getElem? hc2)).1; omega⟩
      have n4 := (hc.all _ (List.mem_of_getElem? hc2)).2
      have hi : i < cs.length := by
        obtain ⟨z, _⟩ := List.getElem?_eq_some_iff.mp hc2
        exact z
      have d1 := D_lc2LR (K := K) (i0 := 3) (i1 := 4) (tt1 := tYes) (te := tOp (rCatF K) (tVar 3) (tTupF (tCons (tVar 4) tNil))) (tl := tVar 1) (tn := tVar 2) (n := fun _ => n) (r := fun d e => if (fun (_ : List Int) (_ : Nat) => true) (rowOf d) (Lc.intD e).toNat = true then some (intT' (rowOf d ++ [Lc.intD e])) else none)
        (σ := [some (.ref a), some v, some (.int (n : Nat)), none, none]) (D_var rfl o) (by rw [List.length_map]; have := (wl.cpre i (by omega)).1; omega) (fun _ _ => by omega) (fun _ => rfl) (fun u d H1 S1 hd lf od => D_var rfl (.int _)) fun u d H1 S1 j hd hj lf od => by
          obtain ⟨row, hrow, rfl⟩ := List.mem_map.mp hd
          rw [rowOf_int, if_pos rfl]
          refine turn_map rfl lf.live (D_eq (D_cat (ds := row.map Dt.int) (es := [.int (j : Nat)]) (D_var rfl od) (D_tup (D_cons (D_var rfl (.int _)) D_nil) (by show 1 ≤ 1000; decide)) ?_) ?_)
          · rw [List.length_map]; have h9 := (wl.cpre i (by omega)).2 row hrow; show row.length + 1 ≤ 1000; omega
          · unfold intT'; rw [List.map_append]; rfl
      refine S_set1 d1 (Lv.same k lv) fun u H2 k2 o2 => ⟨u, some (.int (n : Nat)), rfl, k.trans k2, ?_⟩
      rw [List.take_add_one, hc2]
      show Oc H2 S u (rowsT (coursesM (cs.take i ++ [(n : Int)])))
      rw [mem_coursesM_snoc]
      have e := rowOf_conv (fun _ => []) (coursesM (cs.take i)) n (fun _ _ => true)
      rw [e] at o2
      have e3 : ∀ r, ((List.range n).filter fun _ => true).map (snocR r) = (List.range n).map (snocR r) := fun r => by rw [List.filter_eq_self.mpr (fun _ _ => rfl)]
      simp only [e3] at o2
      exact o2
    · rintro σ' H' ⟨v, c2, rfl, k, o⟩
      rw [List.length_map, List.take_length] at o
      exact ⟨v, rfl, q v H' k o⟩
theorem max_foldl_take (cs : List Int) : (cs : List Int) = cs := rfl
theorem fm_ints (cs : List Int) (p : Int → Bool) : (cs.map Dt.int).filterMap (fun d => if p (Lc.intD d) = true then some d else none) = (cs.filter p).map Dt.int := by
  rw [List.filterMap_map]
  induction cs with
  | nil => rfl
  | cons c r ih =>
    rw [List.filterMap_cons, List.filter_cons]
    have e : ((fun d => if p (Lc.intD d) = true then some d else none) ∘ Dt.int) c = if p c = true then some (.int c) else none := rfl
    rw [e]
    by_cases h : p c = true
    · rw [if_pos h, if_pos h, List.map_cons]
      exact congrArg _ ih
    · rw [if_neg h, if_neg h]
      exact ih
theorem fm_rows (rows : List (List Int)) (p : List Int → Bool) : ((rows.map intT').filterMap fun d => if p (rowOf d) = true then some d else none) = (rows.filter p).map intT' := by
  rw [List.filterMap_map]
  induction rows with
  | nil => rfl
  | cons c r ih =>
    rw [List.filterMap_cons, List.filter_cons]
    have e : ((fun d => if p (rowOf d) = true then some d else none) ∘ intT') c = if p c = true then some (intT' c) else none := by
      show (if p (rowOf (intT' c)) = true then _ else _) = _
      rw [rowOf_int]
    rw [e]
    by_cases h : p c = true
    · rw [if_pos h, if_pos h, List.map_cons]
      exact congrArg _ ih
    · rw [if_neg h, if_neg h]
      exact ih
theorem ok_renamings_of (T : Txt K mg) : FnOk P w K mg base CX0 1 T.a_renamings_of T.d_renamings_of ["counts"] (spRows renM) := by
  refine T.F_renamings_of.ok sc_renamings_of (fun vs H Q E h => ?_) (fun cdv A outer s H vs Q E hr h => ?_)
  · obtain ⟨S, x, cs, rfl, _⟩ := h
    rfl
  · obtain ⟨S, x, cs, rfl, ox, hc, lv, q⟩ := h
    have wl := well hc
    refine ⟨_, (pss_cons (ps_set (i := 1) sc_renamings_of.nd rfl (Or.inl rfl) (pe_lst (pa_cons (pe_tupF pa_nil) pa_nil)))
      (pss_cons (ps_for PassesOwn.never rfl (pi_range1 rfl T.z_range (pa_cons (pe_callB (cr_maxT K (by rfl) hr.units) (by rfl) T.z_max (by decide +kernel) (pa_cons (pv 0) pa_nil)) pa_nil)) (pg_name (i := 2) sc_renamings_of.nd rfl (Or.inr rfl))
      (pss_cons (ps_set (i := 3) sc_renamings_of.nd rfl (Or.inr rfl) (pe_callB (cr_min rfl) (by rfl) T.z_min (by decide +kernel) (pa_cons (pe_lc (own := [("count", 6)]) (g := gName 6) (by rfl) sc_renamings_of.nd (pi_tup (pv 0)) (blkOk_by (own := [("count", 6)]) (N := ["counts", "renamings", "old", "room", "lanes", "new", "count"]) (sc := defScope s_renamings_of) (by decide +kernel)) (fun _ _ _ _ _ => (pg_name (i := 6) sc_renamings_of.nd rfl (Or.inl rfl))) (fun _ _ _ _ _ => (pts_one (pt_cmpR op_lt (pv 2) (pv 6) (nomark _)))) (fun _ _ _ _ _ => (pv 6))) pa_nil)))
      (pss_one (ps_setLc2 (i := 1) (own := [("lanes", 4), ("new", 5)]) (vs1 := [5]) (g := gName 4) (g1 := gName 5) (tt := tYes) (by rfl) sc_renamings_of.nd rfl rfl (sw_true rfl rfl rfl (by decide +kernel)) (pi_list (pv 1)) (blkOk_by (own := [("lanes", 4), ("new", 5)]) (N := ["counts", "renamings", "old", "room", "lanes", "new", "count"]) (sc := defScope s_renamings_of) (by decide +kernel)) (by decide) (fun _ _ _ _ _ => (pg_name (i := 4) sc_renamings_of.nd rfl (Or.inl rfl))) (fun _ _ _ _ _ => pts_nil) (fun _ _ _ _ _ => (pi_range1 rfl T.z_range (pa_cons (pv 3) pa_nil))) (fun _ _ _ _ _ => (pg_name (i := 5) sc_renamings_of.nd rfl (Or.inl rfl))) (fun _ _ _ _ _ => (pts_one (pt_cmpR (op_ninK K) (pv 5) (pv 4) rfl))) (fun _ _ _ _ _ => (pe_op (op_catFK K) (pv 4) (pe_tupF (pa_cons (pv 5) pa_nil))))))))
      (pss_one (ps_ret (pv 1))))), ?_⟩
    have d0 : DE (tLst (tCons (tTupF tNil) tNil)) [some x, none, none, none, none, none, none] H S (rowsT [[]]) := D_lst (D_cons (D_tup D_nil (by decide)) D_nil) (by decide)
    refine S_set d0 lv fun v H1 k1 o1 => ?_
    obtain ⟨a, xs, rfl, ea, na, oa⟩ := ox.tup_inv
    have ei := oa.ints
    subst ei
    obtain ⟨c0, r0, ecs⟩ : ∃ c0 r0, cs = c0 :: r0 := by
      cases cs with
      | nil => have := hc.l1; simp at this
      | cons c r => exact ⟨c, r, rfl⟩
    have em : r0.foldl max c0 = maxL cs := by rw [ecs]; rfl
    obtain ⟨m, hm⟩ : ∃ m : Nat, maxL cs = m := ⟨(maxL cs).toNat, by have := wl.m1; omega⟩
    have hm4 := wl.m4
    have mt : (maxL cs).toNat = m := by rw [hm]; exact Int.toNat_natCast m
    refine ⟨_, rfl, a, c0, r0, rfl, by rw [← ecs]; exact (ea.same k1).sq, ?_⟩
    rw [em, hm]
    refine ⟨_, rfl, by omega, by omega, ?_⟩
    rw [Int.toNat_natCast]
    refine for_range (n := m) (fun i σ' H' => ∃ (v : V) (c2 c3 : Option V), σ' = [some (.ref a), some v, c2, c3, none, none, none] ∧ Same H H' ∧ Oc H' S v (rowsT ((List.range i).foldl (fun acc old => renStep (roomM cs old).toNat acc) [[]]))) ⟨v, none, none, rfl, k1, o1⟩ ?_ ?_
    · rintro i σ' H' hi ⟨v, c2, c3, rfl, k, o⟩
      rw [Int.zero_add]
      obtain ⟨rm0, rm4, rmn⟩ := wl.room i (by omega)
      obtain ⟨rm, hrm⟩ : ∃ m : Nat, roomM cs i = m := ⟨(roomM cs i).toNat, by omega⟩
      have ox' : Oc H' S (.ref a) (intT' cs) := ox.same k
      have d1 : DE (tLc (iTup K (tVar 0)) (gName 6) (tTest (tOp (rI0 fun i j => .bl (decide (i < j))) (tVar 2) (tVar 6))) (tVar 6) [6]) [some (.ref a), some v, some (.int (i : Nat)), c3, none, none, none] H' S (.lst ((cs.map Dt.int).filterMap fun d => if decide ((i : Int) < Lc.intD d) = true then some d else none)) := by
        refine D_lcT (D_var rfl ox') (by rw [List.length_map]; have := hc.l2; omega) fun u d H1 S1 hd lf od => ?_
        obtain ⟨c, hcm, rfl⟩ := List.mem_map.mp hd
        have e := od.int_inv
        subst e
        exact turn_test rfl lf.live (fun H2 S2 R lf2 q => ⟨_, rfl, _, rfl, _, _, rfl, rfl, _, rfl, q _ (fun _ _ z => z)⟩) fun _ => D_var rfl od
      have ef : (cs.map Dt.int).filterMap (fun d => if decide ((i : Int) < Lc.intD d) = true then some d else none) = (cs.filter fun c => decide ((i : Int) < c)).map Dt.int := fm_ints cs fun c => decide ((i : Int) < c)
      rw [ef] at d1
      dsimp only [gName]
      refine S_set (D_minInts (K := K) d1 rmn) (Lv.same k lv) fun u H2 k2 o2 => ?_
      have eu : u = .int (rm : Nat) := by rw [← hrm]; exact o2.int_inv
      subst eu
      have wp := wl.rpre i (by omega)
      have d2 := D_lc2LR (K := K) (i0 := 4) (i1 := 5) (tt1 := tTest (tOp (rIn K true) (tVar 5) (tVar 4))) (te := tOp (rCatF K) (tVar 4) (tTupF (tCons (tVar 5) tNil))) (tl := tVar 1) (tn := tVar 3) (n := fun _ => rm) (r := fun d e => if (fun (r : List Int) (j : Nat) => !decide ((j : Int) ∈ r)) (rowOf d) (Lc.intD e).toNat = true then some (intT' (rowOf d ++ [Lc.intD e])) else none)
        (σ := [some (.ref a), some v, some (.int (i : Nat)), some (.int (rm : Nat)), none, none, none]) (D_var rfl (o.same k2)) (by rw [List.length_map]; have := wp.1; omega) (fun _ _ => by omega) (fun _ => rfl) (fun u d H1 S1 hd lf od => D_var rfl (.int _)) fun u d H1 S1 j hd hj lf od => by
          obtain ⟨row, hrow, rfl⟩ := List.mem_map.mp hd
          rw [rowOf_int]
          refine turn_test rfl lf.live (T_nin (ns := row) (D_var rfl (.int _)) (D_var rfl od)) fun _ => D_eq (D_cat (ds := row.map Dt.int) (es := [.int (j : Nat)]) (D_var rfl od) (D_tup (D_cons (D_var rfl (.int _)) D_nil) (by show 1 ≤ 1000; decide)) ?_) ?_
          · rw [List.length_map]; have h9 := wp.2 row hrow; show row.length + 1 ≤ 1000; omega
          · unfold intT'; rw [List.map_append]; rfl
      refine S_set1 d2 (Lv.same (k.trans k2) lv) fun u H3 k3 o3 => ⟨u, some (.int (i : Nat)), some (.int (rm : Nat)), rfl, (k.trans k2).trans k3, ?_⟩
      rw [List.range_succ, List.foldl_append]
      show Oc H3 S u (rowsT (renStep (roomM cs i).toNat _))
      rw [hrm, Int.toNat_natCast]
      have e := rowOf_conv (fun _ => []) ((List.range i).foldl (fun acc old => renStep (roomM cs old).toNat acc) [[]]) rm (fun r j => !decide ((j : Int) ∈ r))
      rw [e] at o3
      exact o3
    · rintro σ' H' ⟨v, c2, c3, rfl, k, o⟩
      refine ⟨v, rfl, q v H' k ?_⟩
      unfold renM
      rw [mt]; exact o
theorem rows_least {cs c : List Int} (h : renM cs ≠ []) : ∃ x xs, (renM cs).map (fun ls => renamedM c ls) = x :: xs := by
  cases e : renM cs with
  | nil => exact absurd e h
  | cons x r => exact ⟨_, _, rfl⟩
def spLeast : Sp := fun vs H Q _ => ∃ (S : AS) (x y : V) (c cs : List Int), vs = [x, y] ∧ Oc H S x (intT' c) ∧ Oc H S y (intT' cs) ∧ Cnt cs ∧ c ∈ coursesM cs ∧ Lv H S ∧ ∀ v H', Same H H' → Oc H' S v (intT' (leastM cs c)) → Q v H'
theorem ok_least_alike (T : Txt K mg) : FnOk P w K mg base CX0 2 T.a_least_alike T.d_least_alike ["course", "counts"] spLeast := by
  refine T.F_least_alike.ok sc_least_alike (fun vs H Q E h => ?_) (fun cdv A outer s H vs Q E hr h => ?_)
  · obtain ⟨S, x, y, c, cs, rfl, _⟩ := h
    rfl
  · obtain ⟨S, x, y, c, cs, rfl, od, oy, hc, hcm, lv, q⟩ := h
    have wl := well hc
    refine ⟨_, (pss_one (ps_ret (pe_callB (cr_minD K (by rfl) hr.units) (by rfl) T.z_min (by decide +kernel) (pa_cons (pe_lc (own := [("lanes", 2)]) (g := gName 2) (tt := tYes) (by rfl) sc_least_alike.nd (pi_list (pe_call (ok_renamings_of T) (hr.mono (by decide)) rfl T.g_renamings_of T.F_renamings_of.kp T.b_renamings_of .nil pass0 (pa_cons (pv 1) pa_nil))) (blkOk_by (own := [("lanes", 2)]) (N := ["course", "counts", "lanes"]) (sc := defScope s_least_alike) (by decide +kernel)) (fun _ _ _ _ _ => (pg_name (i := 2) sc_least_alike.nd rfl (Or.inl rfl))) (fun _ _ _ _ _ => pts_nil) (fun _ _ _ _ _ => (pe_call (ok_renamed T) (hr.mono (by decide)) rfl T.g_renamed T.F_renamed.kp T.b_renamed .nil pass0 (pa_cons (pv 0) (pa_cons (pv 2) pa_nil))))) pa_nil)))), ?_⟩
    obtain ⟨lx, lxs, el⟩ : ∃ x xs, renM cs = x :: xs := by
      cases e : renM cs with
      | nil => exact absurd e wl.rne
      | cons x r => exact ⟨_, _, rfl⟩
    have e1 : leastM cs c = minR (renamedM c lx) (lxs.map fun ls => renamedM c ls) := by
      unfold leastM; rw [el]; rfl
    rw [e1] at q
    refine S_ret (D_minRows (K := K) (D_eq (D_lcL (K := K) (ds := (renM cs).map intT') (r := fun d => some (intT' (renamedM c (rowOf d)))) (D_fn (D_cons (D_var rfl oy) D_nil) fun H3 S3 vs R lf ovs qq => ?_) (by rw [List.length_map]; have := wl.r24; omega) fun u e H4 S4 he lf4 oe => ?_) ?_)) lv q
    · obtain ⟨u, rfl, ou⟩ := ovs.one
      exact ⟨S3, u, cs, rfl, ou, hc, lf.live, fun v H4 k4 o4 => qq v H4 k4 o4⟩
    · obtain ⟨ls, hls, rfl⟩ := List.mem_map.mp he
      rw [rowOf_int]
      refine turn_map rfl lf4.live (D_fn (D_cons (D_var rfl (lf4.ob od)) (D_cons (D_var rfl oe) D_nil)) fun H5 S5 vs R lf5 ovs qq => ?_)
      obtain ⟨a, b, rfl, oa, ob⟩ := ovs.two
      refine ⟨S5, a, b, c, ls, rfl, oa, ob, fun l hl => ?_, ?_, lf5.live, qq⟩
      · rw [wl.rl ls hls]; exact wl.cl c hcm l hl
      · have := (wl.cpre cs.length (Nat.le_refl _)).2 c (by rw [List.take_length]; exact hcm)
        omega
    · rw [el, List.filterMap_map]
      show Dt.lst _ = Dt.lst _
      congr 1
      rw [← List.map_cons (f := fun ls => renamedM c ls), List.map_map]
      have e2 : ((fun d => some (intT' (renamedM c (rowOf d)))) ∘ intT') = fun ls => some (intT' (renamedM c ls)) := by
        funext ls; show some (intT' (renamedM c (rowOf (intT' ls)))) = _; rw [rowOf_int]
      rw [e2]
      exact List.filterMap_eq_map ▸ rfl
theorem ok_small_courses (T : Txt K mg) : FnOk P w K mg base (L2.CX P w) 4 T.a_small_courses T.d_small_courses ["counts"] (fun vs H Q E => ∃ (S : AS) (x : V) (d : Dt) (p : Addr), vs = [x] ∧ Oc H S x d ∧ S p ∧ Lv H S ∧
    (countsD d = false → ∀ H', Same H H' → E (.ref (T.exc "BadCounts")) none H') ∧ (∀ cs, d = intT' cs → Cnt cs → ∀ v H', Same H H' → Oc H' S v (rowsT (smallM cs)) → Q v H') ∧ (countsD d = false ∨ ∃ cs, d = intT' cs ∧ Cnt cs)) := by
  refine T.F_small_courses.okX sc_small_courses (fun vs H Q E h => ?_) (fun cdv A outer s H vs Q E hr h => ?_)
  · obtain ⟨S, x, d, p, rfl, _⟩ := h
    rfl
  · obtain ⟨S, x, d, p, rfl, ox, hp, lv, qe, q, hd⟩ := h
    refine ⟨_, (pss_cons (ps_expr (pe_call (ok_check_counts T) (hr.mono (by decide)) rfl T.g_check_counts T.F_check_counts.kp T.b_check_counts .nil (passes_call (takes_of rfl rfl rfl rfl) (fun _ _ _ _ h => h)) (pa_cons (pv 0) pa_nil)))
      (pss_one (ps_ret (pe_lc (own := [("course", 1)]) (g := gName 1) (by rfl) sc_small_courses.nd (pi_list (pe_call (ok_courses_of T) (hr.mono (by decide)) rfl T.g_courses_of T.F_courses_of.kp T.b_courses_of .nil pass0 (pa_cons (pv 0) pa_nil))) (blkOk_by (own := [("course", 1)]) (N := ["counts", "course"]) (sc := defScope s_small_courses) (by decide +kernel)) (fun _ _ _ _ _ => (pg_name (i := 1) sc_small_courses.nd rfl (Or.inl rfl))) (fun _ _ _ _ _ => (pts_one (pt_cmpR (op_eqDK K hr.units) (pv 1) (pe_call (ok_least_alike T) (hr.mono (by decide)) rfl T.g_least_alike T.F_least_alike.kp T.b_least_alike .nil pass0 (pa_cons (pv 1) (pa_cons (pv 0) pa_nil))) (nomark _)))) (fun _ _ _ _ _ => (pv 1)))))), ?_⟩
    refine ⟨x, rfl, p, x, d, rfl, ox.ob hp, fun H1 k1 => ⟨fun e => qe e H1 k1, fun e => ?_⟩⟩
    rcases hd with hd | ⟨cs, rfl, hc⟩
    · rw [hd] at e; cases e
    have wl := well hc
    have lv1 := Lv.same k1 lv
    have ox1 := ox.same k1
    refine S_ret (D_lcL (K := K) (ds := (coursesM cs).map intT') (r := fun d => if decide (rowOf d = leastM cs (rowOf d)) = true then some d else none) (D_fn (D_cons (D_var rfl ox1) D_nil) fun H3 S3 vs R lf ovs qq => ?_) (by rw [List.length_map]; have := wl.c64; omega) fun v d H3 S3 hd lf od => ?_) lv1 fun v H3 k3 o3 => q cs rfl hc v H3 (k1.trans k3) ?_
    · obtain ⟨u, rfl, ou⟩ := ovs.one
      exact ⟨S3, u, cs, rfl, ou, hc, lf.live, fun v H4 k4 o4 => qq v H4 k4 o4⟩
    · obtain ⟨c, hcm, rfl⟩ := List.mem_map.mp hd
      rw [rowOf_int]
      refine turn_test rfl lf.live (T_eqRow (D_var rfl od) (D_fn (D_cons (D_var rfl od) (D_cons (D_var rfl (lf.ob ox1)) D_nil)) fun H5 S5 vs R lf5 ovs qq => ?_)) fun _ => D_var rfl od
      obtain ⟨a, b, rfl, oa, ob⟩ := ovs.two
      exact ⟨S5, a, b, c, cs, rfl, oa, ob, hc, hcm, lf5.live, qq⟩
    · have e : (((coursesM cs).map intT').filterMap fun d => if decide (rowOf d = leastM cs (rowOf d)) = true then some d else none) = (smallM cs).map intT' := by
        unfold smallM
        rw [List.filterMap_map]
        induction coursesM cs with
        | nil => rfl
        | cons c r ih =>
          rw [List.filterMap_cons, List.filter_cons]
          have e : ((fun d => if decide (rowOf d = leastM cs (rowOf d)) = true then some d else none) ∘ intT') c = if decide (c = leastM cs c) = true then some (intT' c) else none := by
            show (if decide (rowOf (intT' c) = leastM cs (rowOf (intT' c))) = true then _ else _) = _
            rw [rowOf_int]
          rw [e]
          by_cases h : decide (c = leastM cs c) = true
          · rw [if_pos h, if_pos h, List.map_cons]
            exact congrArg _ ih
          · rw [if_neg h, if_neg h]
            exact ih
      rw [e] at o3
      exact o3
end

section
variable {P : Program} {w : World} {K : PySem.W.Frag} {mg : Str → Option Value} {base : Heap}
theorem ok_law_integer (T : Txt K mg) : FnOk P w K mg base CX0 1 T.a_law_integer T.d_law_integer ["_law_found"] (spIsInt K) := by
  refine T.F_law_integer.ok sc_law_integer (fun vs H Q E h => ?_) (fun cdv A outer s H vs Q E hr h => ?_)
  · obtain ⟨x, n, rfl, _⟩ := h
    rfl
  · obtain ⟨x, n, rfl, hx, q⟩ := h
    refine ⟨_, (pss_one (ps_ret (pe_and (pe_callB call_isi (by rfl) T.z_isinstance (by decide +kernel) (pa_cons (pv 0) (pa_cons (pe_bltn (v := .ty "int") (by rfl) T.z_int (by decide +kernel) rfl) pa_nil))) (pe_one (pe_not (pe_callB call_isi (by rfl) T.z_isinstance (by decide +kernel) (pa_cons (pv 0) (pa_cons (pe_bltn (v := .ty "bool") (by rfl) T.z_bool (by decide +kernel) rfl) pa_nil)))))))), ?_⟩
    refine ⟨x, rfl, x, _, _, _, _, rfl, .ty _, hx.ty, hx.int?, _, rfl, ?_⟩
    cases e : isI x with
    | true =>
      rw [e, Bool.true_and] at q
      exact iteT ⟨_, rfl, _, _, _, _, _, rfl, .ty _, hx.ty, hx.bool?, _, rfl, q⟩
    | false =>
      rw [e, Bool.false_and] at q
      exact iteF q
end

/-! ### the law's own renamings -/
def ordersM (n : Nat) : List (List Int) := (List.range n).foldl (fun acc _ => renStep n acc) [[]]
def keepsM (cs o : List Int) : Bool := cs.all fun c => (List.range c.toNat).all fun l => decide (o.getD l 0 < c)
def alikeM (cs c : List Int) : List (List Int) := ((ordersM (maxL cs).toNat).filter (keepsM cs)).map fun o => renamedM c o
def spOrders : Sp := fun vs H Q _ => ∃ (S : AS) (n : Nat), vs = [.int (n : Nat)] ∧ 1 ≤ n ∧ n ≤ 4 ∧ Lv H S ∧ ∀ v H', Same H H' → Oc H' S v (rowsT (ordersM n)) → Q v H'
def spKeeps : Sp := fun vs H Q _ => ∃ (S : AS) (x y : V) (cs o : List Int), vs = [x, y] ∧ Oc H S x (intT' cs) ∧ Oc H S y (intT' o) ∧ (∀ c ∈ cs, 1 ≤ c ∧ c.toNat ≤ o.length ∧ c ≤ 4) ∧ ∀ H', Same H H' → Q (.bl (keepsM cs o)) H'
def spAlike : Sp := fun vs H Q _ => ∃ (S : AS) (x y : V) (cs c : List Int), vs = [x, y] ∧ Oc H S x (intT' cs) ∧ Oc H S y (intT' c) ∧ Cnt cs ∧ c ∈ coursesM cs ∧ Lv H S ∧ ∀ v H', Same H H' → Oc H' S v (rowsT (alikeM cs c)) → Q v H'
theorem renStep_len (n : Nat) (h : n ≤ 4) (acc : List (List Int)) : (renStep n acc).length ≤ acc.length * 4 := by
  unfold renStep
  refine fl_len _ _ 4 fun r _ => ?_
  rw [List.length_map]
  refine Nat.le_trans (List.length_filter_le _ _) ?_
  rw [List.length_range]; exact h
structure OrdOk (n : Nat) : Prop where
  l24 : (ordersM n).length ≤ 24
  len : ∀ o ∈ ordersM n, o.length = n
  pre : ∀ i, i ≤ n → ((List.range i).foldl (fun acc _ => renStep n acc) [[]]).length ≤ 24 ∧ ∀ r ∈ (List.range i).foldl (fun acc _ => renStep n acc) [[]], r.length = i
theorem ord_ok {n : Nat} (h : n ≤ 4) : OrdOk n := by
  have e : ∀ n, n ≤ 4 → ((List.range (n + 1)).all fun i => decide (((List.range i).foldl (fun acc _ => renStep n acc) [[]]).length ≤ 24) && (((List.range i).foldl (fun acc _ => renStep n acc) [[]]).all fun r => decide (r.length = i))) = true := by decide +kernel
  have w := e n h
  simp only [Bool.and_eq_true, decide_eq_true_eq, List.all_eq_true, List.mem_range] at w
  refine ⟨(w n (by omega)).1, fun o ho => (w n (by omega)).2 o ho, fun i hi => w i (by omega)⟩
section
variable {P : Program} {w : World} {K : PySem.W.Frag} {mg : Str → Option Value} {base : Heap}
theorem ok_law_orders (T : Txt K mg) : FnOk P w K mg base CX0 1 T.a_law_orders T.d_law_orders ["_law_many"] spOrders := by
  refine T.F_law_orders.ok sc_law_orders (fun vs H Q E h => ?_) (fun cdv A outer s H vs Q E hr h => ?_)
  · obtain ⟨S, n, rfl, _⟩ := h
    rfl
  · obtain ⟨S, n, rfl, n1, n4, lv, q⟩ := h
    have oo := ord_ok n4
    refine ⟨_, (pss_cons (ps_set (i := 1) sc_law_orders.nd rfl (Or.inl rfl) (pe_lst (pa_cons (pe_tupF pa_nil) pa_nil)))
      (pss_cons (ps_for PassesOwn.never rfl (pi_range1 rfl T.z_range (pa_cons (pv 0) pa_nil)) (pg_name (i := 2) sc_law_orders.nd rfl (Or.inl rfl))
      (pss_cons (ps_set (i := 3) sc_law_orders.nd rfl (Or.inl rfl) (pe_lst pa_nil))
      (pss_cons (ps_for PassesOwn.never rfl (pi_list (pv 1)) (pg_name (i := 4) sc_law_orders.nd rfl (Or.inr rfl))
      (pss_one (ps_set (i := 3) sc_law_orders.nd rfl (Or.inl rfl) (pe_op op_cat (pv 3) (pe_lc (own := [("_law_lane", 5)]) (g := gName 5) (by rfl) sc_law_orders.nd (pi_range1 rfl T.z_range (pa_cons (pv 0) pa_nil)) (blkOk_by (own := [("_law_lane", 5)]) (N := ["_law_many", "_law_rows", "_law_k", "_law_wider", "_law_row", "_law_lane"]) (sc := defScope s_law_orders) (by decide +kernel)) (fun _ _ _ _ _ => (pg_name (i := 5) sc_law_orders.nd rfl (Or.inl rfl))) (fun _ _ _ _ _ => (pts_one (pt_cmpR (op_ninK K) (pv 5) (pv 4) rfl))) (fun _ _ _ _ _ => (pe_op (op_catFK K) (pv 4) (pe_tupF (pa_cons (pv 5) pa_nil)))))))))
      (pss_one (ps_set (i := 1) sc_law_orders.nd rfl (Or.inl rfl) (pv 3))))))
      (pss_one (ps_ret (pv 1))))), ?_⟩
    have d0 : DE (tLst (tCons (tTupF tNil) tNil)) [some (.int (n : Nat)), none, none, none, none, none] H S (rowsT [[]]) := D_lst (D_cons (D_tup D_nil (by decide)) D_nil) (by decide)
    refine S_set d0 lv fun v H1 k1 o1 => ?_
    refine ⟨_, rfl, (n : Nat), rfl, by omega, by omega, ?_⟩
    rw [Int.toNat_natCast]
    refine for_range (n := n) (fun i σ' H' => ∃ (v : V) (c2 c3 c4 : Option V), σ' = [some (.int (n : Nat)), some v, c2, c3, c4, none] ∧ Same H H' ∧ Oc H' S v (rowsT ((List.range i).foldl (fun acc _ => renStep n acc) [[]]))) ⟨v, none, none, none, rfl, k1, o1⟩ ?_ ?_
    · rintro i σ' H' hi ⟨v, c2, c3, c4, rfl, k, o⟩
      have wp := oo.pre i (by omega)
      dsimp only [gName]
      refine S_set (d := rowsT []) (D_lst D_nil (by decide)) (Lv.same k lv) fun u H2 k2 o2 => ?_
      obtain ⟨a, xs, rfl, ea, na, oa⟩ := (o.same k2).lst_inv
      refine ⟨_, rfl, a, rfl, ⟨_, SqL.of ea⟩, for_list (xs := xs) (fun j σ' H3 => ∃ (u : V) (c4 : Option V), σ' = [some (.int (n : Nat)), some (.ref a), some (.int (0 + (i : Int))), some u, c4, none] ∧ Same H2 H3 ∧ Oc H3 S u (rowsT (renStep n (((List.range i).foldl (fun acc _ => renStep n acc) [[]]).take j)))) ⟨u, c4, rfl, fun _ _ z => z, o2⟩ (fun j σ' H3 _ h => by
        obtain ⟨u, c4, rfl, k3, o3⟩ := h
        exact SqL.of (k3 _ _ ea)) ?_ ?_⟩
      · rintro j y σ' H3 hy ⟨u, c4, rfl, k3, o3⟩
        obtain ⟨d, hd, od⟩ := oa.get hy
        rw [List.getElem?_map] at hd
        obtain ⟨row, hrow, rfl⟩ := Option.map_eq_some_iff.mp hd
        have rl := wp.2 row (List.mem_of_getElem? hrow)
        dsimp only [gName]
        have ody := od.same k3
        have d1 : DE (tLc (iRng1 (tCons (tVar 0) tNil)) (gName 5) (tTest (tOp (rIn K true) (tVar 5) (tVar 4))) (tOp (rCatF K) (tVar 4) (tTupF (tCons (tVar 5) tNil))) [5]) [some (.int (n : Nat)), some (.ref a), some (.int (0 + (i : Int))), some u, some y, none] H3 S
            (.lst ((upto n).filterMap fun e => if (fun (r : List Int) (j : Nat) => !decide ((j : Int) ∈ r)) row (Lc.intD e).toNat = true then some (intT' (row ++ [Lc.intD e])) else none)) := by
          refine D_lcR (D_var rfl (.int _)) (by omega) fun l H4 S4 hl lf => ?_
          refine turn_test rfl lf.live (T_nin (ns := row) (D_var rfl (.int _)) (D_var rfl (lf.ob ody))) fun _ => D_eq (D_cat (ds := row.map Dt.int) (es := [.int (l : Nat)]) (D_var rfl (lf.ob ody)) (D_tup (D_cons (D_var rfl (.int _)) D_nil) (by show 1 ≤ 1000; decide)) ?_) ?_
          · rw [List.length_map]; show row.length + 1 ≤ 1000; omega
          · unfold intT'; rw [List.map_append]; rfl
        have d2 := D_catL (D_var (i := 3) rfl o3) d1 (by
          have h1 := fm_len (upto n) (fun e => if (fun (r : List Int) (j : Nat) => !decide ((j : Int) ∈ r)) row (Lc.intD e).toNat = true then some (intT' (row ++ [Lc.intD e])) else none) n (by rw [upto_len]; omega)
          have h2 : (renStep n (((List.range i).foldl (fun acc _ => renStep n acc) [[]]).take j)).length ≤ 1000 := by
            refine Nat.le_trans (renStep_len n n4 _) ?_
            have := List.length_take_le j ((List.range i).foldl (fun acc _ => renStep n acc) [[]])
            have := List.length_take_le' j ((List.range i).foldl (fun acc _ => renStep n acc) [[]])
            omega
          rw [List.length_map]
          have h3 := List.length_filterMap_le (fun e => if (fun (r : List Int) (j : Nat) => !decide ((j : Int) ∈ r)) row (Lc.intD e).toNat = true then some (intT' (row ++ [Lc.intD e])) else none) (upto n)
          rw [upto_len] at h3
          omega)
        refine S_set1 d2 (Lv.same ((k.trans k2).trans k3) lv) fun z H4 k4 o4 => ⟨z, some y, rfl, k3.trans k4, ?_⟩
        rw [List.take_add_one, hrow]
        have e := rowOf_conv (fun _ => []) [row] n (fun r j => !decide ((j : Int) ∈ r))
        simp only [List.map_cons, List.map_nil, List.flatMap_cons, List.flatMap_nil, List.append_nil, rowOf_int] at e
        rw [e] at o4
        unfold renStep at o4 ⊢
        rw [List.flatMap_append]
        unfold rowsT
        rw [List.map_append]
        simpa using o4
      · rintro σ' H3 ⟨u, c4, rfl, k3, o3⟩
        have ll := oa.len
        rw [List.length_map] at ll
        rw [ll, List.take_length] at o3
        refine S_set1 (D_var (i := 3) rfl o3) (Lv.same ((k.trans k2).trans k3) lv) fun z H4 k4 o4 => ⟨z, _, _, _, rfl, ((k.trans k2).trans k3).trans k4, ?_⟩
        rw [List.range_succ, List.foldl_append]
        exact o4
    · rintro σ' H' ⟨v, c2, c3, c4, rfl, k, o⟩
      exact ⟨v, rfl, q v H' k o⟩
theorem ok_law_keeps (T : Txt K mg) : FnOk P w K mg base CX0 1 T.a_law_keeps T.d_law_keeps ["_law_counts", "_law_order"] spKeeps := by
  refine T.F_law_keeps.ok sc_law_keeps (fun vs H Q E h => ?_) (fun cdv A outer s H vs Q E hr h => ?_)
  · obtain ⟨S, x, y, cs, o, rfl, _⟩ := h
    rfl
  · obtain ⟨S, x, y, cs, o, rfl, ox, oy, hc, q⟩ := h
    refine ⟨_, (pss_cons (ps_for PassesOwn.never rfl (pi_tup (pv 0)) (pg_name (i := 2) sc_law_keeps.nd rfl (Or.inl rfl))
      (pss_one (ps_for PassesOwn.never rfl (pi_range1 rfl T.z_range (pa_cons (pv 2) pa_nil)) (pg_name (i := 3) sc_law_keeps.nd rfl (Or.inl rfl))
      (pss_one (ps_if (pt_cmpR op_ge (pe_ix (ixT K) (pv 1) (pv 3) (fun _ _ => rfl)) (pv 2) (nomark _))
      (pss_one (ps_ret pe_bl))
      pss_nil)))))
      (pss_one (ps_ret pe_bl))), ?_⟩
    obtain ⟨a, xs, rfl, ea, na, oa⟩ := ox.tup_inv
    have ei := oa.ints
    subst ei
    obtain ⟨b, ys, rfl, eb, nb, ob⟩ := oy.tup_inv
    have ei := ob.ints
    subst ei
    refine ⟨_, rfl, a, rfl, ⟨_, ea.sq⟩, for_tup (xs := cs.map V.int) (fun i σ' H' => ∃ (c2 c3 : Option V), σ' = [some (.ref a), some (.ref b), c2, c3] ∧ H = H' ∧ keepsM (cs.take i) o = true) ⟨none, none, rfl, rfl, rfl⟩ (fun i σ' H' _ h => by
      obtain ⟨c2, c3, rfl, rfl, _⟩ := h
      exact ea.sq) ?_ ?_⟩
    · rintro i z σ' H' hz ⟨c2, c3, rfl, rfl, hk⟩
      rw [List.getElem?_map] at hz
      obtain ⟨c, hcg, rfl⟩ := Option.map_eq_some_iff.mp hz
      obtain ⟨c1, cl, c4⟩ := hc c (List.mem_of_getElem? hcg)
      obtain ⟨n, rfl⟩ : ∃ n : Nat, c = n := ⟨c.toNat, by omega⟩
      rw [Int.toNat_natCast] at cl
      refine ⟨_, rfl, (n : Nat), rfl, by omega, by omega, ?_⟩
      rw [Int.toNat_natCast]
      refine for_range (n := n) (fun j σ' H' => ∃ (c3 : Option V), σ' = [some (.ref a), some (.ref b), some (.int (n : Nat)), c3] ∧ H = H' ∧ ((List.range j).all fun l => decide (o.getD l 0 < (n : Int))) = true) ⟨c3, rfl, rfl, rfl⟩ ?_ ?_
      · rintro j σ' H' hj ⟨c3, rfl, rfl, hj2⟩
        rw [Int.zero_add]
        have hg : o[j]? = some o[j] := List.getElem?_eq_getElem (by omega)
        refine ⟨_, rfl, _, rfl, b, _, _, .int o[j], rfl, rfl, eb.sq, atI_nat (by rw [List.getElem?_map, hg]; rfl), _, rfl, _, _, rfl, rfl, _, rfl, ite2 (fun e => ?_) (fun e => ?_)⟩
        · have e1 : (n : Int) ≤ o[j] := of_decide_eq_true e
          have r := q H (fun _ _ z => z)
          have e2 : keepsM cs o = false := by
            unfold keepsM
            rw [List.all_eq_false]
            refine ⟨n, List.mem_of_getElem? hcg, ?_⟩
            rw [Bool.not_eq_true, List.all_eq_false]
            refine ⟨j, List.mem_range.mpr (by rw [Int.toNat_natCast]; exact hj), ?_⟩
            rw [List.getD_eq_getElem?_getD, hg]
            show ¬ decide (o[j] < (n : Int)) = true
            rw [decide_eq_true_eq]; omega
          rw [e2] at r
          exact r
        · have e1 : ¬ (n : Int) ≤ o[j] := fun z => e (decide_eq_true z)
          refine ⟨_, rfl, rfl, ?_⟩
          rw [List.range_succ, List.all_append, hj2, Bool.true_and, List.all_cons, List.all_nil, Bool.and_true, List.getD_eq_getElem?_getD, hg]
          show decide (o[j] < (n : Int)) = true
          rw [decide_eq_true_eq]; omega
      · rintro σ' H' ⟨c3, rfl, rfl, hj⟩
        refine ⟨_, _, rfl, rfl, ?_⟩
        unfold keepsM at hk ⊢
        rw [List.take_add_one, hcg, List.all_append, hk, Bool.true_and]
        simp only [Option.toList_some, List.all_cons, List.all_nil, Bool.and_true, Int.toNat_natCast]
        exact hj
    · rintro σ' H' ⟨c2, c3, rfl, rfl, hk⟩
      rw [List.length_map, List.take_length] at hk
      have r := q H (fun _ _ z => z)
      rw [hk] at r
      exact r
theorem ok_law_alike (T : Txt K mg) : FnOk P w K mg base CX0 2 T.a_law_alike T.d_law_alike ["_law_counts", "_law_course"] spAlike := by
  refine T.F_law_alike.ok sc_law_alike (fun vs H Q E h => ?_) (fun cdv A outer s H vs Q E hr h => ?_)
  · obtain ⟨S, x, y, cs, c, rfl, _⟩ := h
    rfl
  · obtain ⟨S, x, y, cs, c, rfl, ox, oy, hc, hcc, lv, q⟩ := h
    have wl := well hc
    obtain ⟨m, hm⟩ : ∃ m : Nat, maxL cs = m := ⟨(maxL cs).toNat, by have := wl.m1; omega⟩
    have m4 : m ≤ 4 := by have := wl.m4; omega
    have m1 : 1 ≤ m := by have := wl.m1; omega
    have oo := ord_ok m4
    have mt : (maxL cs).toNat = m := by rw [hm]; exact Int.toNat_natCast m
    refine ⟨_, (pss_cons (ps_setLc (i := 2) (own := [("_law_order", 3)]) (g := gName 3) (by rfl) sc_law_alike.nd rfl rfl (sw_true rfl rfl rfl (by decide +kernel)) (pi_list (pe_call (ok_law_orders T) (hr.mono (by decide)) rfl T.g_law_orders T.F_law_orders.kp T.b_law_orders .nil pass0 (pa_cons (pe_callB (cr_maxT K (by rfl) hr.units) (by rfl) T.z_max (by decide +kernel) (pa_cons (pv 0) pa_nil)) pa_nil))) (blkOk_by (own := [("_law_order", 3)]) (N := ["_law_counts", "_law_course", "_law_orders_here", "_law_order", "_law_lane"]) (sc := defScope s_law_alike) (by decide +kernel)) (fun _ _ _ _ _ => (pg_name (i := 3) sc_law_alike.nd rfl (Or.inl rfl))) (fun _ _ _ _ _ => (pts_one (pt_val (pe_call (ok_law_keeps T) (hr.mono (by decide)) rfl T.g_law_keeps T.F_law_keeps.kp T.b_law_keeps .nil pass0 (pa_cons (pv 0) (pa_cons (pv 3) pa_nil)))))) (fun _ _ _ _ _ => (pv 3)))
      (pss_one (ps_ret (pe_lc (own := [("_law_order", 3)]) (g := gName 3) (tt := tYes) (by rfl) sc_law_alike.nd (pi_list (pv 2)) (blkOk_by (own := [("_law_order", 3)]) (N := ["_law_counts", "_law_course", "_law_orders_here", "_law_order", "_law_lane"]) (sc := defScope s_law_alike) (by decide +kernel)) (fun _ _ _ _ _ => (pg_name (i := 3) sc_law_alike.nd rfl (Or.inr rfl))) (fun _ _ _ _ _ => pts_nil) (fun _ _ _ _ _ => (pe_tupleOfFK K (by rfl) T.z_tuple (pe_lc (own := [("_law_lane", 4)]) (g := gName 4) (tt := tYes) (by rfl) sc_law_alike.nd (pi_tupK K (pv 1)) (blkOk_in (own := [("_law_lane", 4)]) (N := ["_law_counts", "_law_course", "_law_orders_here", "_law_order", "_law_lane"]) (sc0 := defScope s_law_alike) rfl (by decide +kernel)) (fun _ _ _ _ _ => (pg_name (i := 4) sc_law_alike.nd rfl (Or.inl rfl))) (fun _ _ _ _ _ => pts_nil) (fun _ _ _ _ _ => (pe_ix (ixT K) (pv 3) (pv 4) (fun _ _ => rfl)))))))))), ?_⟩
    have d1 : DE (tLc (iList K (tCall spOrders [] (fun _ _ _ => False) (tCons (tCB (rMaxT K) (tCons (tVar 0) tNil)) tNil))) (gName 3) (tB (tCall spKeeps [] (fun _ _ _ => False) (tCons (tVar 0) (tCons (tVar 3) tNil)))) (tVar 3) [3]) [some x, some y, none, none, none] H S
        (.lst (((ordersM m).map intT').filterMap fun d => if keepsM cs (rowOf d) = true then some d else none)) := by
      refine D_lcL (D_fn (ds := [.int (m : Nat)]) (D_cons (D_maxInts (D_var rfl ox) hm (fun z => by have := hc.l1; rw [z] at this; simp at this)) D_nil) fun H3 S3 vs R lf ovs qq => ?_) (by rw [List.length_map]; have := oo.l24; omega) fun v d H3 S3 hd lf od => ?_
      · obtain ⟨u, rfl, ou⟩ := ovs.one
        have eu := ou.int_inv
        subst eu
        exact ⟨S3, m, rfl, m1, m4, lf.live, qq⟩
      · obtain ⟨row, hrow, rfl⟩ := List.mem_map.mp hd
        rw [rowOf_int]
        refine turn_test rfl lf.live (fun H4 S4 R lf4 qq => ?_) fun _ => D_var rfl od
        refine ⟨x, rfl, v, rfl, S4, x, v, cs, row, rfl, (lf.trans lf4).ob ox, lf4.ob od, fun z hz => ?_, fun H5 k5 => ⟨_, rfl, qq H5 k5⟩⟩
        obtain ⟨z1, z4⟩ := hc.all z hz
        refine ⟨z1, ?_, z4⟩
        rw [oo.len row hrow]
        have := le_maxL hz
        omega
    refine S_set d1 lv fun v H1 k1 o1 => ?_
    have e1 : (((ordersM m).map intT').filterMap fun d => if keepsM cs (rowOf d) = true then some d else none) = ((ordersM m).filter (keepsM cs)).map intT' := fm_rows _ _
    rw [e1] at o1
    have lv1 := Lv.same k1 lv
    have oy1 := oy.same k1
    refine S_ret (d := rowsT (alikeM cs c)) (D_eq (D_lcL (K := K) (ds := ((ordersM m).filter (keepsM cs)).map intT') (r := fun d => some (intT' (renamedM c (rowOf d)))) (D_var rfl o1) (by rw [List.length_map]; have := oo.l24; have := List.length_filter_le (keepsM cs) (ordersM m); omega) fun u d H3 S3 hd lf od => ?_) ?_) lv1 fun v H3 k3 o3 => q v H3 (k1.trans k3) o3
    · obtain ⟨row, hrow, rfl⟩ := List.mem_map.mp hd
      rw [rowOf_int]
      have rl := oo.len row (List.mem_filter.mp hrow).1
      refine turn_map rfl lf.live (D_eq (D_tupleOf (D_lcT (K := K) (ds := c.map Dt.int) (z := true) (r := fun d => some (.int (row.getD (Lc.intD d).toNat 0))) (D_var rfl (lf.ob oy1)) (by rw [List.length_map]; have := (wl.cpre cs.length (Nat.le_refl _)).2 c (by rw [List.take_length]; exact hcc); omega) fun z e H4 S4 he lf4 oe => ?_)) ?_)
      · obtain ⟨l, hl, rfl⟩ := List.mem_map.mp he
        have ez := oe.int_inv
        subst ez
        obtain ⟨l0, l1⟩ := wl.cl c hcc l hl
        obtain ⟨n, rfl⟩ : ∃ n : Nat, l = n := ⟨l.toNat, by omega⟩
        rw [Int.toNat_natCast] at l1
        refine turn_map rfl lf4.live (D_ixT (D_var rfl (lf4.ob od)) (D_var rfl oe) ?_)
        have hl3 : n < row.length := by omega
        rw [List.getElem?_map, List.getElem?_eq_getElem hl3]
        show some (Dt.int row[n]) = some (.int (row.getD ((n : Int)).toNat 0))
        rw [Int.toNat_natCast, List.getD_eq_getElem?_getD, List.getElem?_eq_getElem hl3]; rfl
      · show Dt.tup true _ = Dt.tup true _
        congr 1
        unfold renamedM
        rw [List.filterMap_map, List.map_map]
        exact List.filterMap_eq_map ▸ rfl
    · show Dt.lst _ = Dt.lst _
      congr 1
      unfold alikeM
      rw [mt, List.filterMap_map, List.map_map]
      have e2 : ((fun d => some (intT' (renamedM c (rowOf d)))) ∘ intT') = fun ls => some (intT' (renamedM c ls)) := by
        funext ls; show some (intT' (renamedM c (rowOf (intT' ls)))) = _; rw [rowOf_int]
      rw [e2]
      exact List.filterMap_eq_map ▸ rfl
end

def only (p : Addr) : AS := fun b => b = p
def drwT (E : XK) (js : Nat) (tl : TE) : TE := tCall spDrawA [] E (tCons (tVar js) (tCons tl tNil))
theorem only_live {H : Hp} {p : Addr} {n : Nat} {Av : AS} (h : SrcA H p n Av) : Lv H (only p) := fun a ha => by
  have e : a = p := ha
  rw [e]; exact h.live
theorem but_S {H H' : Hp} {p : Addr} (h : But p H H') : ButS (only p) H H' := fun b o n e => h b o n e
/-- tuple([1 + draw(4) for k in range(2 + draw(2))]) -/
theorem draw_counts {K : PySem.W.Frag} {E1 E2 : XK} {σ : L2.St} {H : Hp} {Q : VK} {p : Addr} {n js ik : Nat} {Av : AS} (hj : σ[js]? = some (some (.ref p))) (hj2 : ∀ x : V, ((wipe σ [ik]).set ik (some x))[js]? = some (some (.ref p)))
    (hw : ∀ x : V, wipe ((wipe σ [ik]).set ik (some x)) [ik] = wipe σ [ik]) (S : SrcA H p n Av) (L : Live H Av) (hn : n < 900000)
    (q : ∀ v cs H', Cnt cs → Oc H' (only p) v (intT' cs) → SrcA H' p (n + 10) Av → But p H H' → Q v H') :
    tTupOfF K (tLc (iRng1 (tCons (tOp (rI0 fun i j => .int (i + j)) (tC (.int 2)) (drwT E1 js (tC (.int 2)))) tNil)) (gName ik) tYes (tOp (rI0 fun i j => .int (i + j)) (tC (.int 1)) (drwT E2 js (tC (.int 4)))) [ik]) σ H Q := by
  refine ⟨_, hj, p, n, 2, Av, rfl, S, L, by omega, by decide, by decide, fun d H1 d0 d1 S1 B1 => ⟨_, _, rfl, rfl, _, rfl, by omega, by omega, fun D hD => ?_⟩⟩
  have L1 := L.but S1 B1
  have nD : D ≠ p := S1.ne hD
  refine lc_range (lo := 0) (n := (2 + d).toNat) (fun i H' => SrcA H' p (n + 1 + i) (And1 Av D) ∧ Live H' (And1 Av D) ∧ But p H1 H' ∧ ∃ cs : List Int, cs.length = i ∧ (∀ c ∈ cs, 1 ≤ c ∧ c ≤ 4) ∧ H' D = some (.lst (cs.map V.int))) ⟨S1.add hD, L1.add hD, Same.but (same_upd hD), [], rfl, fun x h => (nomatch h), upd_same⟩ ?_ ?_
  · rintro i H' hi ⟨S', L', B', cs, hl, hu, eD⟩
    refine ⟨hw _, _, hj2 _, p, _, 4, _, rfl, S', L', by omega, by decide, by decide, fun d2 H3 e0' e1' S3 B3 => ?_⟩
    refine ⟨_, _, rfl, rfl, _, B3 _ _ nD eD, ?_, S3.put (.inr rfl) nD, (L'.but S3 B3).put, ?_, cs ++ [1 + d2], ?_, ?_, ?_⟩
    · rw [List.length_map, hl]
      exact Nat.lt_of_lt_of_le (show i < 1000 by omega) (by decide)
    · exact fun b o nb hb => by
        rw [upd_ne (ne_of_none hb hD)]
        exact (B'.trans B3) _ _ nb hb
    · rw [List.length_append, hl]; rfl
    · intro x hx
      rcases List.mem_append.mp hx with h | h
      · exact hu x h
      · rw [List.mem_singleton.mp h]; omega
    · rw [upd_same, List.map_append]; rfl
  rintro H8 ⟨S8, L8, B8, cs, hcl, hcs, eD⟩
  refine ⟨D, _, rfl, SqL.of eD, fun ct H9 hct k9 tct g9 => ?_⟩
  have S8' : SrcA H8 p (n + 10) Av := (S8.sub fun b hb => .inl hb).le (by omega)
  refine q _ cs H9 ⟨by omega, by omega, hcs⟩ (.tup tct (S8'.ne hct) (ocs_ints cs)) (S8'.same k9) ((B1.trans B8).trans (Same.but k9))
theorem mem_coursesM_step {cs o : List Int} {c d : Int} {j : Nat} (h : o ∈ coursesM (cs.take j)) (hc : cs[j]? = some c) (d0 : 0 ≤ d) (d1 : d < c) : o ++ [d] ∈ coursesM (cs.take (j + 1)) := by
  rw [List.take_add_one, hc]
  show _ ∈ coursesM (cs.take j ++ [c])
  rw [mem_coursesM_snoc, List.mem_flatMap]
  refine ⟨o, h, List.mem_map.mpr ⟨d.toNat, List.mem_range.mpr (by omega), ?_⟩⟩
  unfold snocR
  rw [Int.toNat_of_nonneg d0]
/-- tuple([draw(count) for count in counts]) -/
theorem draw_course {K : PySem.W.Frag} {E2 : XK} {σ : L2.St} {H : Hp} {Q : VK} {p : Addr} {n js ic ik : Nat} {Av : AS} {v : V} {cs : List Int} (hc : σ[ic]? = some (some v)) (ov : Oc H (only p) v (intT' cs)) (hcs : Cnt cs) (hj2 : ∀ x : V, ((wipe σ [ik]).set ik (some x))[js]? = some (some (.ref p)))
    (hk2 : ∀ x : V, ((wipe σ [ik]).set ik (some x))[ik]? = some (some x)) (hw : ∀ x : V, wipe ((wipe σ [ik]).set ik (some x)) [ik] = wipe σ [ik]) (S : SrcA H p n Av) (L : Live H Av) (hn : n < 900000)
    (q : ∀ u o H', o ∈ coursesM cs → Oc H' (only p) u (intT' o) → SrcA H' p (n + 10) Av → But p H H' → Q u H') :
    tTupOfF K (tLc (iTup K (tVar ic)) (gName ik) tYes (drwT E2 js (tVar ik)) [ik]) σ H Q := by
  obtain ⟨a, xs, rfl, ea, na, oa⟩ := ov.tup_inv
  have e := oa.ints
  subst e
  refine ⟨_, hc, a, rfl, ⟨_, ea.sq⟩, fun D hD => ?_⟩
  have nD : D ≠ p := S.ne hD
  refine lc_tup (K := K) (a := a) (xs := cs.map V.int) (fun j H' => SrcA H' p (n + j) (And1 Av D) ∧ Live H' (And1 Av D) ∧ But p H H' ∧ ∃ o : List Int, o.length = j ∧ o ∈ coursesM (cs.take j) ∧ H' D = some (.lst (o.map V.int)))
    ⟨S.add hD, L.add hD, Same.but (same_upd hD), [], rfl, by rw [List.take_zero]; decide, upd_same⟩ (fun j H' _ h => (ea.butS (but_S h.2.2.1) na).sq) ?_ ?_
  · rintro j x H' hx ⟨S', L', B', o, hl, hu, eD⟩
    rw [List.getElem?_map] at hx
    obtain ⟨c, hcg, rfl⟩ := Option.map_eq_some_iff.mp hx
    have hc4 := hcs.all c (List.mem_of_getElem? hcg)
    have hj3 : j < 3 := by
      obtain ⟨z, _⟩ := List.getElem?_eq_some_iff.mp hcg
      have := hcs.l2; omega
    refine ⟨hw _, _, hj2 _, _, hk2 _, p, _, c, _, rfl, S', L', by omega, by omega, by omega, fun d2 H3 e0' e1' S3 B3 => ?_⟩
    refine ⟨_, B3 _ _ nD eD, ?_, S3.put (.inr rfl) nD, (L'.but S3 B3).put, ?_, o ++ [d2], ?_, mem_coursesM_step hu hcg e0' e1', ?_⟩
    · rw [List.length_map, hl]
      exact Nat.lt_of_lt_of_le (show j < 1000 by omega) (by decide)
    · exact fun b o nb hb => by
        rw [upd_ne (ne_of_none hb hD)]
        exact (B'.trans B3) _ _ nb hb
    · rw [List.length_append, hl]; rfl
    · rw [upd_same, List.map_append]; rfl
  rintro H8 ⟨S8, L8, B8, o, hol, ho, eD⟩
  rw [List.length_map] at S8 hol ho
  rw [List.take_length] at ho
  have hl3 := hcs.l2
  refine ⟨D, _, rfl, SqL.of eD, fun ct H9 hct k9 tct g9 => ?_⟩
  have S8' : SrcA H8 p (n + 10) Av := (S8.sub fun b hb => .inl hb).le (by omega)
  exact q _ o H9 ho (.tup tct (S8'.ne hct) (ocs_ints o)) (S8'.same k9) (B8.trans (Same.but k9))

def spLaw (K : PySem.W.Frag) : Sp := fun vs H Q _ => ∃ (a : Addr) (ns : List Int), vs = [.ref a] ∧ SqL K H a (ns.map V.int) ∧ ns.length ≤ 63 ∧ (∀ z ∈ ns, Builtin.Int.intBits z ≤ 1048576) ∧ ∀ H', Q (.bl true) H'
/-- what the law finds of the counts cs -/
def chkA (cs : List Int) : Bool :=
  ((smallM cs).all fun r => decide (r.length = cs.length) && ((r.zip cs).all fun z => decide (0 ≤ z.1) && decide (z.1 < z.2)) && decide (r ∈ coursesM cs)) &&
  (List.range ((smallM cs).length - 1)).all fun k => ltI ((smallM cs).getD k []) ((smallM cs).getD (k + 1) [])
def chkB (cs : List Int) : Bool :=
  let os := (ordersM (maxL cs).toNat).filter (keepsM cs)
  let sm := smallM cs
  !os.isEmpty && (sm.all fun r => decide (minRows (os.map fun o => renamedM r o) = r)) &&
  (coursesM cs).all fun c => let al := os.map fun o => renamedM c o; decide (sm.filter (fun r => decide (r ∈ al)) = [minRows al])
theorem chkA_all : allCnt.all chkA = true := by decide +kernel
theorem chkB_all : allCnt.all chkB = true := by decide +kernel

section
variable {P : Program} {w : World} {K : PySem.W.Frag} {mg : Str → Option Value} {base : Heap}
theorem ok_law (T : Txt K mg) : FnOk P w K mg base CX0 5 T.a_law T.d_law ["_law_script"] (spLaw K) := by
  refine T.F_law.ok sc_law (fun vs H Q E h => ?_) (fun cdv A outer s₀ H vs Q E hr h => ?_)
  · obtain ⟨a, ns, rfl, _⟩ := h
    rfl
  · obtain ⟨x, ns, rfl, hS, hlen, hb, q⟩ := h
    refine ⟨_, (pss_cons (ps_set (i := 1) sc_law.nd rfl (Or.inr rfl) (pe_call (ok_law_source T) (hr.mono (by decide)) rfl T.g_law_source T.F_law_source.kp T.b_law_source .nil pass0 (pa_cons (pv 0) pa_nil)))
      (pss_cons (ps_set (i := 3) sc_law.nd rfl (Or.inl rfl) (pe_tupleOfF (by rfl) T.z_tuple (pe_lc (own := [("_law_k", 2)]) (g := gName 2) (tt := tYes) (by rfl) sc_law.nd (pi_range1 rfl T.z_range (pa_cons (pe_op op_add pe_int (pe_call (ok_law_draw T) (hr.mono (by decide)) rfl T.g_law_draw T.F_law_draw.kp T.b_law_draw .nil pass0 (pa_cons (pv 1) (pa_cons pe_int pa_nil)))) pa_nil)) (blkOk_by (own := [("_law_k", 2)]) (N := ["_law_script", "_law_source_here", "_law_k", "_law_counts", "_law_count", "_law_course", "_law_found", "_law_row", "_law_lane", "_law_alike_here"]) (sc := defScope s_law) (by decide +kernel)) (fun _ _ _ _ _ => (pg_name (i := 2) sc_law.nd rfl (Or.inl rfl))) (fun _ _ _ _ _ => pts_nil) (fun _ _ _ _ _ => (pe_op op_add pe_int (pe_call (ok_law_draw T) (hr.mono (by decide)) rfl T.g_law_draw T.F_law_draw.kp T.b_law_draw .nil pass0 (pa_cons (pv 1) (pa_cons pe_int pa_nil))))))))
      (pss_cons (ps_set (i := 5) sc_law.nd rfl (Or.inl rfl) (pe_tupleOfF (by rfl) T.z_tuple (pe_lc (own := [("_law_count", 4)]) (g := gName 4) (tt := tYes) (by rfl) sc_law.nd (pi_tup (pv 3)) (blkOk_by (own := [("_law_count", 4)]) (N := ["_law_script", "_law_source_here", "_law_k", "_law_counts", "_law_count", "_law_course", "_law_found", "_law_row", "_law_lane", "_law_alike_here"]) (sc := defScope s_law) (by decide +kernel)) (fun _ _ _ _ _ => (pg_name (i := 4) sc_law.nd rfl (Or.inl rfl))) (fun _ _ _ _ _ => pts_nil) (fun _ _ _ _ _ => (pe_call (ok_law_draw T) (hr.mono (by decide)) rfl T.g_law_draw T.F_law_draw.kp T.b_law_draw .nil pass0 (pa_cons (pv 1) (pa_cons (pv 4) pa_nil)))))))
      (pss_cons (ps_set (i := 6) sc_law.nd rfl (Or.inl rfl) (pe_call (ok_small_courses T) (hr.mono (by decide)) rfl T.g_small_courses T.F_small_courses.kp T.b_small_courses .nil passL (pa_cons (pv 3) pa_nil)))
      (pss_cons (ps_if (pt_not (pt_val (pe_callB call_isi (by rfl) T.z_isinstance (by decide +kernel) (pa_cons (pv 6) (pa_cons (pe_bltn (v := .ty "list") (by rfl) T.z_list (by decide +kernel) rfl) pa_nil)))))
      (pss_one (ps_ret pe_bl))
      pss_nil)
      (pss_cons (ps_for PassesOwn.never rfl (pi_list (pv 6)) (pg_name (i := 7) sc_law.nd rfl (Or.inl rfl))
      (pss_cons (ps_if (PW.pt (pw_or (pt_not (pt_val (pe_callB call_isi (by rfl) T.z_isinstance (by decide +kernel) (pa_cons (pv 7) (pa_cons (pe_bltn (v := .ty "tuple") (by rfl) T.z_tuple (by decide +kernel) rfl) pa_nil))))) (pw_or1 (pt_cmpR op_ne (pe_callB call_len_seq (by rfl) T.z_len (by decide +kernel) (pa_cons (pv 7) pa_nil)) (pe_callB call_len_seq (by rfl) T.z_len (by decide +kernel) (pa_cons (pv 3) pa_nil)) (nomark _)))))
      (pss_one (ps_ret pe_bl))
      pss_nil)
      (pss_cons (ps_for PassesOwn.never rfl (pi_zipA (by rfl) T.z_zip (pa_cons (pv 7) (pa_cons (pv 3) pa_nil))) (pg_tup rfl (pgs_cons (pg_name (i := 8) sc_law.nd rfl (Or.inl rfl)) (pgs_cons (pg_name (i := 4) sc_law.nd rfl (Or.inl rfl)) pgs_nil)))
      (pss_one (ps_if (PW.pt (pw_or (pt_not (pt_val (pe_call (ok_law_integer T) (hr.mono (by decide)) rfl T.g_law_integer T.F_law_integer.kp T.b_law_integer .nil pass0 (pa_cons (pv 8) pa_nil)))) (pw_or1 (pt_not (pt_chain op_le op_lt pe_int (pv 8) (pv 4))))))
      (pss_one (ps_ret pe_bl))
      pss_nil)))
      (pss_one (ps_if (pt_cmpR (op_neDK K hr.units) (pe_callB (cr_minD K (by rfl) hr.units) (by rfl) T.z_min (by decide +kernel) (pa_cons (pe_call (ok_law_alike T) (hr.mono (by decide)) rfl T.g_law_alike T.F_law_alike.kp T.b_law_alike .nil pass0 (pa_cons (pv 3) (pa_cons (pv 7) pa_nil))) pa_nil)) (pv 7) (nomark _))
      (pss_one (ps_ret pe_bl))
      pss_nil)))))
      (pss_cons (ps_for PassesOwn.never rfl (pi_range1 rfl T.z_range (pa_cons (pe_op op_sub (pe_callB call_len_seq (by rfl) T.z_len (by decide +kernel) (pa_cons (pv 6) pa_nil)) pe_int) pa_nil)) (pg_name (i := 2) sc_law.nd rfl (Or.inl rfl))
      (pss_one (ps_if (pt_cmpR (op_geD K hr.units) (pe_ix (ixL K) (pv 6) (pv 2) (fun _ _ => rfl)) (pe_ix (ixL K) (pv 6) (pe_op op_add (pv 2) pe_int) (fun _ _ => rfl)) (nomark _))
      (pss_one (ps_ret pe_bl))
      pss_nil)))
      (pss_cons (ps_set (i := 9) sc_law.nd rfl (Or.inr rfl) (pe_call (ok_law_alike T) (hr.mono (by decide)) rfl T.g_law_alike T.F_law_alike.kp T.b_law_alike .nil pass0 (pa_cons (pv 3) (pa_cons (pv 5) pa_nil))))
      (pss_one (ps_ret (pe_cmpR (op_eqDK K hr.units) (pe_lc (own := [("_law_row", 7)]) (g := gName 7) (by rfl) sc_law.nd (pi_list (pv 6)) (blkOk_by (own := [("_law_row", 7)]) (N := ["_law_script", "_law_source_here", "_law_k", "_law_counts", "_law_count", "_law_course", "_law_found", "_law_row", "_law_lane", "_law_alike_here"]) (sc := defScope s_law) (by decide +kernel)) (fun _ _ _ _ _ => (pg_name (i := 7) sc_law.nd rfl (Or.inl rfl))) (fun _ _ _ _ _ => (pts_one (pt_cmpR (op_inDK K (units65 hr)) (pv 7) (pv 9) rfl))) (fun _ _ _ _ _ => (pv 7))) (pe_lst (pa_cons (pe_callB (cr_minD K (by rfl) hr.units) (by rfl) T.z_min (by decide +kernel) (pa_cons (pv 9) pa_nil)) pa_nil)) (nomark _)))))))))))), ?_⟩
    refine ⟨.ref x, rfl, x, ns, rfl, hS, hlen, hb, fun p H1 hp S1 k1 => ?_⟩
    have L1 : Live H1 (fun _ => False) := fun _ h => False.elim h
    dsimp only [gName]
    refine S_setQ (draw_counts (js := 1) (ik := 2) rfl (fun _ => rfl) (fun _ => rfl) S1 L1 (by decide) fun v3 cs H2 hc ov S2 B2 => ?_)
    have L2 := L1.but S2 B2
    refine S_setQ (draw_course (js := 1) (ic := 3) (ik := 4) rfl ov hc (fun _ => rfl) (fun _ => rfl) (fun _ => rfl) S2 L2 (by decide) fun v5 c H3 hcc oc S3 B3 => ?_)
    have lv3 := only_live S3
    have ov3 := ov.but (but_S B3)
    have wl := well hc
    refine ⟨_, rfl, only p, v3, intT' cs, p, rfl, ov3, rfl, lv3, fun e => (by rw [counts_cnt hc] at e; cases e), fun cs' e hc' v6 H4 k4 o4 => ?_, .inr ⟨cs, rfl, hc⟩⟩
    have ecs : cs = cs' := by rw [← rowOf_int cs', ← e, rowOf_int]
    subst ecs
    have cA := cnt_all chkA_all hc
    have cB := cnt_all chkB_all hc
    have lv4 := Lv.same k4 lv3
    have ov4 := ov3.same k4
    have oc4 := oc.same k4
    unfold chkA at cA
    rw [Bool.and_eq_true, List.all_eq_true, List.all_eq_true] at cA
    obtain ⟨cA1, cA2⟩ := cA
    unfold chkB at cB
    simp only [Bool.and_eq_true, List.all_eq_true, Bool.not_eq_true', decide_eq_true_eq] at cB
    obtain ⟨⟨cB0, cB1⟩, cB2⟩ := cB
    have alE : ∀ r, alikeM cs r = ((ordersM (maxL cs).toNat).filter (keepsM cs)).map fun o => renamedM r o := fun r => rfl
    obtain ⟨o0, ors, eo⟩ : ∃ o r, (ordersM (maxL cs).toNat).filter (keepsM cs) = o :: r := by
      cases e : (ordersM (maxL cs).toNat).filter (keepsM cs) with
      | nil => rw [e] at cB0; cases cB0
      | cons o r => exact ⟨o, r, rfl⟩
    obtain ⟨fa, fs, rfl, ef, nf, of⟩ := o4.lst_inv
    obtain ⟨ca, cvs, rfl, eca, nca, oca⟩ := ov4.tup_inv
    have eci := oca.ints
    subst eci
    have cl3 := hc.l2
    refine ⟨_, rfl, _, _, _, _, _, rfl, .ty _, (o4.arg (K := K)).ty, kit_l _, _, rfl, iteF ?_⟩
    refine ⟨_, rfl, fa, rfl, ⟨_, SqL.of ef⟩, for_list (xs := fs) (fun j σ' H' => ∃ c4 c7 c8 : Option V, σ' = [some (.ref x), some (.ref p), none, some (.ref ca), c4, some v5, some (.ref fa), c7, c8, none] ∧ Same H4 H') ⟨none, none, none, rfl, fun _ _ z => z⟩ (fun j σ' H' _ h => by
      obtain ⟨c4, c7, c8, rfl, k⟩ := h
      exact SqL.of (k _ _ ef)) ?_ ?_⟩
    · rintro j y σ' H' hy ⟨c4, c7, c8, rfl, k⟩
      obtain ⟨d, hd, od⟩ := (of.same k).get hy
      rw [List.getElem?_map] at hd
      obtain ⟨row, hrow, rfl⟩ := Option.map_eq_some_iff.mp hd
      have rmem := List.mem_of_getElem? hrow
      have r1 := cA1 row rmem
      simp only [Bool.and_eq_true, List.all_eq_true, decide_eq_true_eq] at r1
      obtain ⟨⟨rl, rz⟩, rc⟩ := r1
      obtain ⟨ra, rvs, rfl, era, nra, ora⟩ := od.tup_inv
      have eri := ora.ints
      subst eri
      have eca' := eca.same k
      refine ⟨_, rfl, _, _, _, _, _, rfl, .ty _, (od.arg (K := K)).ty, kit_t _, _, rfl, iteF ?_⟩
      refine ⟨_, rfl, _, _, rfl, .inr era.sq, _, rfl, _, _, rfl, .inr eca'.sq, rfl, _, rfl, ?_⟩
      refine ite2 (fun e => ?_) (fun _ => ?_)
      · exfalso
        have e2 : (!decide (V.int (((row.map V.int).length : Nat) : Int) = V.int (((cs.map V.int).length : Nat) : Int))) = true := e
        rw [List.length_map, List.length_map, rl] at e2
        simp at e2
      refine ⟨_, rfl, _, rfl, ra, ca, _, _, rfl, .inr ⟨era.sq, eca'.sq, for_zipT (xs := row.map V.int) (ys := cs.map V.int) (by rw [List.length_map, List.length_map, rl]) (fun i σ' H2 => ∃ c4 c8 : Option V, σ' = [some (.ref x), some (.ref p), none, some (.ref ca), c4, some v5, some (.ref fa), some (.ref ra), c8, none] ∧ Same H' H2) ⟨c4, c8, rfl, fun _ _ z => z⟩ (fun i σ2 H2 h => by
        obtain ⟨_, _, _, k2⟩ := h
        exact ⟨(era.same k2).sq, (eca'.same k2).sq⟩) ?_ ?_⟩⟩
      · rintro i u v T' σ2 H2 hu hv ⟨c4, c8, rfl, k2⟩ hT
        rw [List.getElem?_map] at hu hv
        obtain ⟨l, hl, rfl⟩ := Option.map_eq_some_iff.mp hu
        obtain ⟨cc, hcg, rfl⟩ := Option.map_eq_some_iff.mp hv
        have hz := rz (l, cc) (List.mem_of_getElem? (show (row.zip cs)[i]? = some (l, cc) by rw [List.getElem?_zip_eq_some]; exact ⟨hl, hcg⟩))
        refine ⟨T', _, rfl, SqT.of upd_same, rfl, _, _, rfl, _, _, rfl, rfl, ?_⟩
        refine ⟨_, rfl, .int l, "int", rfl, .int l, _, rfl, iteF ?_⟩
        refine ⟨_, rfl, _, _, rfl, rfl, _, rfl, ite2 (fun _ => ?_) (fun e => absurd (decide_eq_true hz.1) e)⟩
        refine ⟨_, rfl, _, _, rfl, rfl, _, rfl, ite2 (fun e => ?_) (fun _ => ?_)⟩
        · exfalso
          have e2 : (!decide (l < cc)) = true := e
          rw [decide_eq_true hz.2] at e2; cases e2
        · exact ⟨_, _, rfl, k2.trans (same_upd hT)⟩
      · rintro σ2 H2 ⟨c4, c8, rfl, k2⟩
        have k02 := k.trans k2
        have lv5 := Lv.same k02 lv4
        have al1 : alikeM cs row = renamedM row o0 :: ors.map fun o => renamedM row o := by rw [alE, eo]; rfl
        have hmin : minR (renamedM row o0) (ors.map fun o => renamedM row o) = row := by
          have h := cB1 row rmem
          rw [eo] at h; exact h
        refine (T_neRow (K := K) (a := minR (renamedM row o0) (ors.map fun o => renamedM row o)) (b := row) (D_minRows (D_eq (d := rowsT (alikeM cs row)) (D_fn (ds := [intT' cs, intT' row]) (D_cons (D_var rfl ((Oc.tup eca nca (ocs_ints cs)).same k02)) (D_cons (D_var rfl ((Oc.tup era nra (ocs_ints row)).same k2)) D_nil)) fun H5 S5 vs R lf5 ovs qq => ?_) (by rw [al1]; rfl))) (D_var rfl ((Oc.tup era nra (ocs_ints row)).same k2))).go lv5 fun H5 k5 => ?_
        · obtain ⟨a, b, rfl, oa, ob⟩ := ovs.two
          exact ⟨S5, a, b, cs, row, rfl, oa, ob, hc, rc, lf5.live, qq⟩
        · rw [hmin]
          refine ite2 (fun e => by simp at e) (fun _ => ?_)
          exact ⟨_, _, _, rfl, k02.trans k5⟩
    · rintro σ' H' ⟨c4, c7, c8, rfl, k⟩
      have ef' := k _ _ ef
      have lf0 : fs.length = (smallM cs).length := by have := of.len; rw [List.length_map] at this; exact this
      have lv5 := Lv.same k lv4
      have ls64 : (smallM cs).length ≤ 64 := Nat.le_trans (List.length_filter_le _ _) wl.c64
      have of' : Oc H' (only p) (.ref fa) (rowsT (smallM cs)) := .lst ef' nf (of.same k)
      refine ⟨_, rfl, _, _, rfl, .inl (SqL.of ef'), _, _, rfl, rfl, _, rfl, by omega, by omega, ?_⟩
      have en : ((fs.length : Int) - 1).toNat = (smallM cs).length - 1 := by omega
      rw [en]
      refine for_range (n := (smallM cs).length - 1) (fun j σ' H2 => ∃ c2 c4 c7 c8 : Option V, σ' = [some (.ref x), some (.ref p), c2, some (.ref ca), c4, some v5, some (.ref fa), c7, c8, none] ∧ Same H' H2) ⟨_, c4, c7, c8, rfl, fun _ _ z => z⟩ ?_ ?_
      · rintro j σ2 H2 hj ⟨c2, c4, c7, c8, rfl, k2⟩
        rw [Int.zero_add]
        have g1 : (smallM cs)[j]? = some ((smallM cs).getD j []) := by rw [List.getD_eq_getElem?_getD, List.getElem?_eq_getElem (by omega)]; rfl
        have g2 : (smallM cs)[j + 1]? = some ((smallM cs).getD (j + 1) []) := by rw [List.getD_eq_getElem?_getD, List.getElem?_eq_getElem (by omega)]; rfl
        have lt := cA2 j (List.mem_range.mpr hj)
        have lv6 := Lv.same k2 lv5
        dsimp only [gName]
        refine (T_geRow (K := K) (a := (smallM cs).getD j []) (b := (smallM cs).getD (j + 1) []) (D_ixL (ds := (smallM cs).map intT') (i := j) (D_var rfl (of'.same k2)) (D_var rfl (.int _)) (by rw [List.getElem?_map, g1]; rfl)) (D_ixL (ds := (smallM cs).map intT') (i := j + 1) (D_var rfl (of'.same k2)) (D_add (D_var rfl (.int (j : Nat))) (D_int 1)) (by rw [List.getElem?_map, g2]; rfl))).go lv6 fun H3 k3 => ?_
        rw [lt]
        refine iteF ⟨_, _, _, _, rfl, k2.trans k3⟩
      · rintro σ2 H2 ⟨c2, c4, c7, c8, rfl, k2⟩
        have k02 := k.trans k2
        have lv6 := Lv.same k2 lv5
        have al1 : alikeM cs c = renamedM c o0 :: ors.map fun o => renamedM c o := by rw [alE, eo]; rfl
        refine S_set (d := rowsT (alikeM cs c)) (D_fn (ds := [intT' cs, intT' c]) (D_cons (D_var rfl ((Oc.tup eca nca (ocs_ints cs)).same k02)) (D_cons (D_var rfl (oc4.same k02)) D_nil)) fun H5 S5 vs R lf5 ovs qq => ?_) lv6 fun v9 H3 k3 o9 => ?_
        · obtain ⟨a, b, rfl, oa, ob⟩ := ovs.two
          exact ⟨S5, a, b, cs, c, rfl, oa, ob, hc, hcc, lf5.live, qq⟩
        · have d1 := D_lcL (K := K) (g := gName 7) (tt := tTest (tOp (rInD K) (tVar 7) (tVar 9))) (te := tVar 7) (vs := [7]) (tl := tVar 6) (σ := [some (.ref x), some (.ref p), c2, some (.ref ca), c4, some v5, some (.ref fa), c7, c8, some v9]) (r := fun d => if (fun r => decide (r ∈ alikeM cs c)) (rowOf d) = true then some d else none) (D_var rfl ((of'.same k2).same k3)) (by rw [List.length_map]; omega) fun u d H5 S5 hd lf od => by
            obtain ⟨row, hrow, rfl⟩ := List.mem_map.mp hd
            rw [rowOf_int]
            exact turn_test rfl lf.live (T_inRows (D_var rfl od) (D_var rfl (lf.ob o9))) fun _ => D_var rfl od
          rw [fm_rows (smallM cs) (fun r => decide (r ∈ alikeM cs c))] at d1
          have d2 := D_lst (ds := [intT' (minR (renamedM c o0) (ors.map fun o => renamedM c o))]) (D_cons (D_minRows (K := K) (D_var (σ := [some (.ref x), some (.ref p), c2, some (.ref ca), c4, some v5, some (.ref fa), c7, c8, some v9]) (i := 9) rfl (by rw [al1] at o9; exact o9))) D_nil) (by show 1 ≤ 1000; decide)
          have ef : (smallM cs).filter (fun r => decide (r ∈ alikeM cs c)) = [minR (renamedM c o0) (ors.map fun o => renamedM c o)] := by
            have h := cB2 c hcc
            rw [← alE, al1] at h
            rw [al1]; exact h
          refine S_ret (D_eqL (K := K) (b := [minR (renamedM c o0) (ors.map fun o => renamedM c o)]) d1 d2) (Lv.same k3 lv6) fun v H4 k4 o => ?_
          rw [ef] at o
          have e := o.bl_inv
          subst e
          rw [decide_eq_true rfl]
          exact q H4
end

theorem all_mk {P : Program} {w : World} {K : PySem.W.Frag} {h : Heap} {mg : Str → Option Value} {fa f_is_whole f_is_row f_small_courses f_is_counts f_check_counts f_courses_of f_renamings_of f_renamed f_least_alike f_law_source f_law_draw f_law_integer f_law_orders f_law_keeps f_law_alike C_LaneError C_BadCounts : Addr}
    (X : K.In h) (G : h.Ns mainGlobals mg) (hfa : mg "law" = some (.ref fa))
    {oc_is_whole kV_is_whole dc_is_whole pm_is_whole cd_is_whole ct_is_whole : Value} {od_is_whole an_is_whole : Option Addr} {sl_is_whole : Array (Option Value)}
    (a_is_whole : PySem.W.nsIn K mainGlobals "is_whole" = some (some (.ref f_is_whole)))
    (l_is_whole : K.lookup f_is_whole = some ⟨oc_is_whole, od_is_whole, .func (PySem.W.fnOf "is_whole" "is_whole" (defArgs s_is_whole) (defBody s_is_whole) (defScope s_is_whole) .none kV_is_whole dc_is_whole pm_is_whole an_is_whole cd_is_whole ct_is_whole), sl_is_whole⟩)
    (c_is_whole : PySem.W.codeIn K cd_is_whole "is_whole" = true) (k_is_whole : PySem.W.keepIn K (.ref f_is_whole) = true)
    {oc_is_row kV_is_row dc_is_row pm_is_row cd_is_row ct_is_row : Value} {od_is_row an_is_row : Option Addr} {sl_is_row : Array (Option Value)}
    (a_is_row : PySem.W.nsIn K mainGlobals "is_row" = some (some (.ref f_is_row)))
    (l_is_row : K.lookup f_is_row = some ⟨oc_is_row, od_is_row, .func (PySem.W.fnOf "is_row" "is_row" (defArgs s_is_row) (defBody s_is_row) (defScope s_is_row) .none kV_is_row dc_is_row pm_is_row an_is_row cd_is_row ct_is_row), sl_is_row⟩)
    (c_is_row : PySem.W.codeIn K cd_is_row "is_row" = true) (k_is_row : PySem.W.keepIn K (.ref f_is_row) = true)
    {oc_small_courses kV_small_courses dc_small_courses pm_small_courses cd_small_courses ct_small_courses : Value} {od_small_courses an_small_courses : Option Addr} {sl_small_courses : Array (Option Value)}
    (a_small_courses : PySem.W.nsIn K mainGlobals "small_courses" = some (some (.ref f_small_courses)))
    (l_small_courses : K.lookup f_small_courses = some ⟨oc_small_courses, od_small_courses, .func (PySem.W.fnOf "small_courses" "small_courses" (defArgs s_small_courses) (defBody s_small_courses) (defScope s_small_courses) .none kV_small_courses dc_small_courses pm_small_courses an_small_courses cd_small_courses ct_small_courses), sl_small_courses⟩)
    (c_small_courses : PySem.W.codeIn K cd_small_courses "small_courses" = true) (k_small_courses : PySem.W.keepIn K (.ref f_small_courses) = true)
    {oc_is_counts kV_is_counts dc_is_counts pm_is_counts cd_is_counts ct_is_counts : Value} {od_is_counts an_is_counts : Option Addr} {sl_is_counts : Array (Option Value)}
    (a_is_counts : PySem.W.nsIn K mainGlobals "is_counts" = some (some (.ref f_is_counts)))
    (l_is_counts : K.lookup f_is_counts = some ⟨oc_is_counts, od_is_counts, .func (PySem.W.fnOf "is_counts" "is_counts" (defArgs s_is_counts) (defBody s_is_counts) (defScope s_is_counts) .none kV_is_counts dc_is_counts pm_is_counts an_is_counts cd_is_counts ct_is_counts), sl_is_counts⟩)
    (c_is_counts : PySem.W.codeIn K cd_is_counts "is_counts" = true) (k_is_counts : PySem.W.keepIn K (.ref f_is_counts) = true)
    {oc_check_counts kV_check_counts dc_check_counts pm_check_counts cd_check_counts ct_check_counts : Value} {od_check_counts an_check_counts : Option Addr} {sl_check_counts : Array (Option Value)}
    (a_check_counts : PySem.W.nsIn K mainGlobals "check_counts" = some (some (.ref f_check_counts)))
    (l_check_counts : K.lookup f_check_counts = some ⟨oc_check_counts, od_check_counts, .func (PySem.W.fnOf "check_counts" "check_counts" (defArgs s_check_counts) (defBody s_check_counts) (defScope s_check_counts) .none kV_check_counts dc_check_counts pm_check_counts an_check_counts cd_check_counts ct_check_counts), sl_check_counts⟩)
    (c_check_counts : PySem.W.codeIn K cd_check_counts "check_counts" = true) (k_check_counts : PySem.W.keepIn K (.ref f_check_counts) = true)
    {oc_courses_of kV_courses_of dc_courses_of pm_courses_of cd_courses_of ct_courses_of : Value} {od_courses_of an_courses_of : Option Addr} {sl_courses_of : Array (Option Value)}
    (a_courses_of : PySem.W.nsIn K mainGlobals "courses_of" = some (some (.ref f_courses_of)))
    (l_courses_of : K.lookup f_courses_of = some ⟨oc_courses_of, od_courses_of, .func (PySem.W.fnOf "courses_of" "courses_of" (defArgs s_courses_of) (defBody s_courses_of) (defScope s_courses_of) .none kV_courses_of dc_courses_of pm_courses_of an_courses_of cd_courses_of ct_courses_of), sl_courses_of⟩)
    (c_courses_of : PySem.W.codeIn K cd_courses_of "courses_of" = true) (k_courses_of : PySem.W.keepIn K (.ref f_courses_of) = true)
    {oc_renamings_of kV_renamings_of dc_renamings_of pm_renamings_of cd_renamings_of ct_renamings_of : Value} {od_renamings_of an_renamings_of : Option Addr} {sl_renamings_of : Array (Option Value)}
    (a_renamings_of : PySem.W.nsIn K mainGlobals "renamings_of" = some (some (.ref f_renamings_of)))
    (l_renamings_of : K.lookup f_renamings_of = some ⟨oc_renamings_of, od_renamings_of, .func (PySem.W.fnOf "renamings_of" "renamings_of" (defArgs s_renamings_of) (defBody s_renamings_of) (defScope s_renamings_of) .none kV_renamings_of dc_renamings_of pm_renamings_of an_renamings_of cd_renamings_of ct_renamings_of), sl_renamings_of⟩)
    (c_renamings_of : PySem.W.codeIn K cd_renamings_of "renamings_of" = true) (k_renamings_of : PySem.W.keepIn K (.ref f_renamings_of) = true)
    {oc_renamed kV_renamed dc_renamed pm_renamed cd_renamed ct_renamed : Value} {od_renamed an_renamed : Option Addr} {sl_renamed : Array (Option Value)}
    (a_renamed : PySem.W.nsIn K mainGlobals "renamed" = some (some (.ref f_renamed)))
    (l_renamed : K.lookup f_renamed = some ⟨oc_renamed, od_renamed, .func (PySem.W.fnOf "renamed" "renamed" (defArgs s_renamed) (defBody s_renamed) (defScope s_renamed) .none kV_renamed dc_renamed pm_renamed an_renamed cd_renamed ct_renamed), sl_renamed⟩)
    (c_renamed : PySem.W.codeIn K cd_renamed "renamed" = true) (k_renamed : PySem.W.keepIn K (.ref f_renamed) = true)
    {oc_least_alike kV_least_alike dc_least_alike pm_least_alike cd_least_alike ct_least_alike : Value} {od_least_alike an_least_alike : Option Addr} {sl_least_alike : Array (Option Value)}
    (a_least_alike : PySem.W.nsIn K mainGlobals "least_alike" = some (some (.ref f_least_alike)))
    (l_least_alike : K.lookup f_least_alike = some ⟨oc_least_alike, od_least_alike, .func (PySem.W.fnOf "least_alike" "least_alike" (defArgs s_least_alike) (defBody s_least_alike) (defScope s_least_alike) .none kV_least_alike dc_least_alike pm_least_alike an_least_alike cd_least_alike ct_least_alike), sl_least_alike⟩)
    (c_least_alike : PySem.W.codeIn K cd_least_alike "least_alike" = true) (k_least_alike : PySem.W.keepIn K (.ref f_least_alike) = true)
    {oc_law_source kV_law_source dc_law_source pm_law_source cd_law_source ct_law_source : Value} {od_law_source an_law_source : Option Addr} {sl_law_source : Array (Option Value)}
    (a_law_source : PySem.W.nsIn K mainGlobals "_law_source" = some (some (.ref f_law_source)))
    (l_law_source : K.lookup f_law_source = some ⟨oc_law_source, od_law_source, .func (PySem.W.fnOf "_law_source" "_law_source" (defArgs s_law_source) (defBody s_law_source) (defScope s_law_source) .none kV_law_source dc_law_source pm_law_source an_law_source cd_law_source ct_law_source), sl_law_source⟩)
    (c_law_source : PySem.W.codeIn K cd_law_source "_law_source" = true) (k_law_source : PySem.W.keepIn K (.ref f_law_source) = true)
    {oc_law_draw kV_law_draw dc_law_draw pm_law_draw cd_law_draw ct_law_draw : Value} {od_law_draw an_law_draw : Option Addr} {sl_law_draw : Array (Option Value)}
    (a_law_draw : PySem.W.nsIn K mainGlobals "_law_draw" = some (some (.ref f_law_draw)))
    (l_law_draw : K.lookup f_law_draw = some ⟨oc_law_draw, od_law_draw, .func (PySem.W.fnOf "_law_draw" "_law_draw" (defArgs s_law_draw) (defBody s_law_draw) (defScope s_law_draw) .none kV_law_draw dc_law_draw pm_law_draw an_law_draw cd_law_draw ct_law_draw), sl_law_draw⟩)
    (c_law_draw : PySem.W.codeIn K cd_law_draw "_law_draw" = true) (k_law_draw : PySem.W.keepIn K (.ref f_law_draw) = true)
    {oc_law_integer kV_law_integer dc_law_integer pm_law_integer cd_law_integer ct_law_integer : Value} {od_law_integer an_law_integer : Option Addr} {sl_law_integer : Array (Option Value)}
    (a_law_integer : PySem.W.nsIn K mainGlobals "_law_integer" = some (some (.ref f_law_integer)))
    (l_law_integer : K.lookup f_law_integer = some ⟨oc_law_integer, od_law_integer, .func (PySem.W.fnOf "_law_integer" "_law_integer" (defArgs s_law_integer) (defBody s_law_integer) (defScope s_law_integer) .none kV_law_integer dc_law_integer pm_law_integer an_law_integer cd_law_integer ct_law_integer), sl_law_integer⟩)
    (c_law_integer : PySem.W.codeIn K cd_law_integer "_law_integer" = true) (k_law_integer : PySem.W.keepIn K (.ref f_law_integer) = true)
    {oc_law_orders kV_law_orders dc_law_orders pm_law_orders cd_law_orders ct_law_orders : Value} {od_law_orders an_law_orders : Option Addr} {sl_law_orders : Array (Option Value)}
    (a_law_orders : PySem.W.nsIn K mainGlobals "_law_orders" = some (some (.ref f_law_orders)))
    (l_law_orders : K.lookup f_law_orders = some ⟨oc_law_orders, od_law_orders, .func (PySem.W.fnOf "_law_orders" "_law_orders" (defArgs s_law_orders) (defBody s_law_orders) (defScope s_law_orders) .none kV_law_orders dc_law_orders pm_law_orders an_law_orders cd_law_orders ct_law_orders), sl_law_orders⟩)
    (c_law_orders : PySem.W.codeIn K cd_law_orders "_law_orders" = true) (k_law_orders : PySem.W.keepIn K (.ref f_law_orders) = true)
    {oc_law_keeps kV_law_keeps dc_law_keeps pm_law_keeps cd_law_keeps ct_law_keeps : Value} {od_law_keeps an_law_keeps : Option Addr} {sl_law_keeps : Array (Option Value)}
    (a_law_keeps : PySem.W.nsIn K mainGlobals "_law_keeps" = some (some (.ref f_law_keeps)))
    (l_law_keeps : K.lookup f_law_keeps = some ⟨oc_law_keeps, od_law_keeps, .func (PySem.W.fnOf "_law_keeps" "_law_keeps" (defArgs s_law_keeps) (defBody s_law_keeps) (defScope s_law_keeps) .none kV_law_keeps dc_law_keeps pm_law_keeps an_law_keeps cd_law_keeps ct_law_keeps), sl_law_keeps⟩)
    (c_law_keeps : PySem.W.codeIn K cd_law_keeps "_law_keeps" = true) (k_law_keeps : PySem.W.keepIn K (.ref f_law_keeps) = true)
    {oc_law_alike kV_law_alike dc_law_alike pm_law_alike cd_law_alike ct_law_alike : Value} {od_law_alike an_law_alike : Option Addr} {sl_law_alike : Array (Option Value)}
    (a_law_alike : PySem.W.nsIn K mainGlobals "_law_alike" = some (some (.ref f_law_alike)))
    (l_law_alike : K.lookup f_law_alike = some ⟨oc_law_alike, od_law_alike, .func (PySem.W.fnOf "_law_alike" "_law_alike" (defArgs s_law_alike) (defBody s_law_alike) (defScope s_law_alike) .none kV_law_alike dc_law_alike pm_law_alike an_law_alike cd_law_alike ct_law_alike), sl_law_alike⟩)
    (c_law_alike : PySem.W.codeIn K cd_law_alike "_law_alike" = true) (k_law_alike : PySem.W.keepIn K (.ref f_law_alike) = true)
    {f_law : Addr}
    {oc_law kV_law dc_law pm_law cd_law ct_law : Value} {od_law an_law : Option Addr} {sl_law : Array (Option Value)}
    (a_law : PySem.W.nsIn K mainGlobals "law" = some (some (.ref f_law)))
    (l_law : K.lookup f_law = some ⟨oc_law, od_law, .func (PySem.W.fnOf "law" "law" (defArgs s_law) (defBody s_law) (defScope s_law) .none kV_law dc_law pm_law an_law cd_law ct_law), sl_law⟩)
    (c_law : PySem.W.codeIn K cd_law "law" = true) (k_law : PySem.W.keepIn K (.ref f_law) = true)
    (z_all : PySem.W.nsIn K mainGlobals "all" = some none)
    (z_bool : PySem.W.nsIn K mainGlobals "bool" = some none)
    (z_int : PySem.W.nsIn K mainGlobals "int" = some none)
    (z_isinstance : PySem.W.nsIn K mainGlobals "isinstance" = some none)
    (z_len : PySem.W.nsIn K mainGlobals "len" = some none)
    (z_list : PySem.W.nsIn K mainGlobals "list" = some none)
    (z_max : PySem.W.nsIn K mainGlobals "max" = some none)
    (z_min : PySem.W.nsIn K mainGlobals "min" = some none)
    (z_range : PySem.W.nsIn K mainGlobals "range" = some none)
    (z_tuple : PySem.W.nsIn K mainGlobals "tuple" = some none)
    (z_zip : PySem.W.nsIn K mainGlobals "zip" = some none)
    {t_GREATEST_OF_COUNTS : Tok} (a_GREATEST_OF_COUNTS : PySem.W.nsIn K mainGlobals "GREATEST_OF_COUNTS" = some (some (.int 4 t_GREATEST_OF_COUNTS)))
    (ag_LaneError : PySem.W.nsIn K mainGlobals "LaneError" = some (some (.ref C_LaneError)))
    (ax_LaneError : PySem.W.excIn K C_LaneError [.type "ValueError", .type "Exception", .type "BaseException", .type "object"] "ValueError.__new__" = true)
    (ak_LaneError : PySem.W.keepIn K (.ref C_LaneError) = true) (ap_LaneError : PySem.W.subIn K (.ref C_LaneError) (.type "BaseException") = some true) (at_LaneError : PySem.W.typeIn K (.ref C_LaneError) = some (.type "type")) (ai_LaneError : PySem.W.isClsIn K C_LaneError = true)
    (ag_BadCounts : PySem.W.nsIn K mainGlobals "BadCounts" = some (some (.ref C_BadCounts)))
    (ax_BadCounts : PySem.W.excIn K C_BadCounts [.type "ValueError", .type "Exception", .type "BaseException", .type "object"] "ValueError.__new__" = true)
    (ak_BadCounts : PySem.W.keepIn K (.ref C_BadCounts) = true) (ap_BadCounts : PySem.W.subIn K (.ref C_BadCounts) (.type "BaseException") = some true) (at_BadCounts : PySem.W.typeIn K (.ref C_BadCounts) = some (.type "type")) (ai_BadCounts : PySem.W.isClsIn K C_BadCounts = true) :
    ∃ fd : FuncData, (∀ (s : Shared) (v : Value), BindsTo s fd ⟨[v], []⟩ [("_law_script", v)]) ∧ ∀ base : Heap, K.In base → base.Ns mainGlobals mg → FnOk P w K mg base CX0 5 fa fd ["_law_script"] (spLaw K) := by
  have e := hfa.symm.trans (PySem.W.mg_of X G a_law)
  cases e
  have F_is_whole := fun_mk (st := s_is_whole) l_is_whole c_is_whole k_is_whole
  have b_is_whole := F_is_whole.binds (ps := ["thing", "low", "high"]) fun _ _ _ _ _ _ us hl => match us, hl with | [_, _, _], _ => rfl
  have F_is_row := fun_mk (st := s_is_row) l_is_row c_is_row k_is_row
  have b_is_row := F_is_row.binds (ps := ["thing", "low", "high"]) fun _ _ _ _ _ _ us hl => match us, hl with | [_, _, _], _ => rfl
  have F_small_courses := fun_mk (st := s_small_courses) l_small_courses c_small_courses k_small_courses
  have b_small_courses := F_small_courses.binds (ps := ["counts"]) fun _ _ _ _ _ _ us hl => match us, hl with | [_], _ => rfl
  have F_is_counts := fun_mk (st := s_is_counts) l_is_counts c_is_counts k_is_counts
  have b_is_counts := F_is_counts.binds (ps := ["thing"]) fun _ _ _ _ _ _ us hl => match us, hl with | [_], _ => rfl
  have F_check_counts := fun_mk (st := s_check_counts) l_check_counts c_check_counts k_check_counts
  have b_check_counts := F_check_counts.binds (ps := ["counts"]) fun _ _ _ _ _ _ us hl => match us, hl with | [_], _ => rfl
  have F_courses_of := fun_mk (st := s_courses_of) l_courses_of c_courses_of k_courses_of
  have b_courses_of := F_courses_of.binds (ps := ["counts"]) fun _ _ _ _ _ _ us hl => match us, hl with | [_], _ => rfl
  have F_renamings_of := fun_mk (st := s_renamings_of) l_renamings_of c_renamings_of k_renamings_of
  have b_renamings_of := F_renamings_of.binds (ps := ["counts"]) fun _ _ _ _ _ _ us hl => match us, hl with | [_], _ => rfl
  have F_renamed := fun_mk (st := s_renamed) l_renamed c_renamed k_renamed
  have b_renamed := F_renamed.binds (ps := ["course", "lanes"]) fun _ _ _ _ _ _ us hl => match us, hl with | [_, _], _ => rfl
  have F_least_alike := fun_mk (st := s_least_alike) l_least_alike c_least_alike k_least_alike
  have b_least_alike := F_least_alike.binds (ps := ["course", "counts"]) fun _ _ _ _ _ _ us hl => match us, hl with | [_, _], _ => rfl
  have F_law_source := fun_mk (st := s_law_source) l_law_source c_law_source k_law_source
  have b_law_source := F_law_source.binds (ps := ["_law_script"]) fun _ _ _ _ _ _ us hl => match us, hl with | [_], _ => rfl
  have F_law_draw := fun_mk (st := s_law_draw) l_law_draw c_law_draw k_law_draw
  have b_law_draw := F_law_draw.binds (ps := ["_law_source_here", "_law_limit"]) fun _ _ _ _ _ _ us hl => match us, hl with | [_, _], _ => rfl
  have F_law_integer := fun_mk (st := s_law_integer) l_law_integer c_law_integer k_law_integer
  have b_law_integer := F_law_integer.binds (ps := ["_law_found"]) fun _ _ _ _ _ _ us hl => match us, hl with | [_], _ => rfl
  have F_law_orders := fun_mk (st := s_law_orders) l_law_orders c_law_orders k_law_orders
  have b_law_orders := F_law_orders.binds (ps := ["_law_many"]) fun _ _ _ _ _ _ us hl => match us, hl with | [_], _ => rfl
  have F_law_keeps := fun_mk (st := s_law_keeps) l_law_keeps c_law_keeps k_law_keeps
  have b_law_keeps := F_law_keeps.binds (ps := ["_law_counts", "_law_order"]) fun _ _ _ _ _ _ us hl => match us, hl with | [_, _], _ => rfl
  have F_law_alike := fun_mk (st := s_law_alike) l_law_alike c_law_alike k_law_alike
  have b_law_alike := F_law_alike.binds (ps := ["_law_counts", "_law_course"]) fun _ _ _ _ _ _ us hl => match us, hl with | [_, _], _ => rfl
  have F_law := fun_mk (st := s_law) l_law c_law k_law
  have b_law := F_law.binds (ps := ["_law_script"]) fun _ _ _ _ _ _ us hl => match us, hl with | [_], _ => rfl
  exact ⟨PySem.W.fnOf "law" "law" (defArgs s_law) (defBody s_law) (defScope s_law) .none kV_law dc_law pm_law an_law cd_law ct_law, fun s v => .of_eq rfl, fun base _ _ => ok_law (P := P) (w := w) (mg := mg) (base := base) ({ a_is_whole := _, d_is_whole := _, F_is_whole := F_is_whole, g_is_whole := PySem.W.mg_of X G a_is_whole, b_is_whole := b_is_whole, a_is_row := _, d_is_row := _, F_is_row := F_is_row, g_is_row := PySem.W.mg_of X G a_is_row, b_is_row := b_is_row, a_small_courses := _, d_small_courses := _, F_small_courses := F_small_courses, g_small_courses := PySem.W.mg_of X G a_small_courses, b_small_courses := b_small_courses, a_is_counts := _, d_is_counts := _, F_is_counts := F_is_counts, g_is_counts := PySem.W.mg_of X G a_is_counts, b_is_counts := b_is_counts, a_check_counts := _, d_check_counts := _, F_check_counts := F_check_counts, g_check_counts := PySem.W.mg_of X G a_check_counts, b_check_counts := b_check_counts, a_courses_of := _, d_courses_of := _, F_courses_of := F_courses_of, g_courses_of := PySem.W.mg_of X G a_courses_of, b_courses_of := b_courses_of, a_renamings_of := _, d_renamings_of := _, F_renamings_of := F_renamings_of, g_renamings_of := PySem.W.mg_of X G a_renamings_of, b_renamings_of := b_renamings_of, a_renamed := _, d_renamed := _, F_renamed := F_renamed, g_renamed := PySem.W.mg_of X G a_renamed, b_renamed := b_renamed, a_least_alike := _, d_least_alike := _, F_least_alike := F_least_alike, g_least_alike := PySem.W.mg_of X G a_least_alike, b_least_alike := b_least_alike, a_law_source := _, d_law_source := _, F_law_source := F_law_source, g_law_source := PySem.W.mg_of X G a_law_source, b_law_source := b_law_source, a_law_draw := _, d_law_draw := _, F_law_draw := F_law_draw, g_law_draw := PySem.W.mg_of X G a_law_draw, b_law_draw := b_law_draw, a_law_integer := _, d_law_integer := _, F_law_integer := F_law_integer, g_law_integer := PySem.W.mg_of X G a_law_integer, b_law_integer := b_law_integer, a_law_orders := _, d_law_orders := _, F_law_orders := F_law_orders, g_law_orders := PySem.W.mg_of X G a_law_orders, b_law_orders := b_law_orders, a_law_keeps := _, d_law_keeps := _, F_law_keeps := F_law_keeps, g_law_keeps := PySem.W.mg_of X G a_law_keeps, b_law_keeps := b_law_keeps, a_law_alike := _, d_law_alike := _, F_law_alike := F_law_alike, g_law_alike := PySem.W.mg_of X G a_law_alike, b_law_alike := b_law_alike, a_law := _, d_law := _, F_law := F_law, g_law := PySem.W.mg_of X G a_law, b_law := b_law, z_all := PySem.W.mg_none_of X G z_all, z_bool := PySem.W.mg_none_of X G z_bool, z_int := PySem.W.mg_none_of X G z_int, z_isinstance := PySem.W.mg_none_of X G z_isinstance, z_len := PySem.W.mg_none_of X G z_len, z_list := PySem.W.mg_none_of X G z_list, z_max := PySem.W.mg_none_of X G z_max, z_min := PySem.W.mg_none_of X G z_min, z_range := PySem.W.mg_none_of X G z_range, z_tuple := PySem.W.mg_none_of X G z_tuple, z_zip := PySem.W.mg_none_of X G z_zip, u_GREATEST_OF_COUNTS := _, g_GREATEST_OF_COUNTS := PySem.W.mg_of X G a_GREATEST_OF_COUNTS, r_GREATEST_OF_COUNTS := ⟨_, rfl⟩, C_LaneError := _, g_LaneError := PySem.W.mg_of X G ag_LaneError, x_LaneError := ax_LaneError, k_LaneError := ak_LaneError, p_LaneError := ap_LaneError, t_LaneError := at_LaneError, i_LaneError := ai_LaneError, C_BadCounts := _, g_BadCounts := PySem.W.mg_of X G ag_BadCounts, x_BadCounts := ax_BadCounts, k_BadCounts := ak_BadCounts, p_BadCounts := ap_BadCounts, t_BadCounts := at_BadCounts, i_BadCounts := ai_BadCounts } : Txt K mg)⟩
end K06
open PySem PySem.W PyProof.Rows
set_option maxRecDepth 100000 in
set_option maxHeartbeats 0 in
theorem PySem.Challenge.cw_lanescounted_k06_whole_small_courses_holds : PySem.Challenge.rw_lanescounted_k06_whole_small_courses.Holds := by
  w_on; o_law; k_head; (case hw => w_witness2)
  k_fill
  refine L2.walk_ofB (l := PySem.Challenge.rw_lanescounted_k06_whole_small_courses) (n := 63) (k := 5) (x := "_law_script") (CX := fun w => L2.CX0) (sp := fun w => K06.spLaw _) rfl (by decide) rfl ⟨rfl, by decide, by decide⟩ (fun w h Y => PySem.W.kIn_of Y) ?F (fun _ _ a ns hl hb _ hS => ⟨a, ns, rfl, hS, hl, hb, fun _ => rfl⟩) (fun _ _ _ _ _ h => h)
  case F =>
    intro w mg fa h KX G hmg
    refine' K06.all_mk KX G hmg ?a_is_whole ?l_is_whole ?c_is_whole ?k_is_whole ?a_is_row ?l_is_row ?c_is_row ?k_is_row ?a_small_courses ?l_small_courses ?c_small_courses ?k_small_courses ?a_is_counts ?l_is_counts ?c_is_counts ?k_is_counts ?a_check_counts ?l_check_counts ?c_check_counts ?k_check_counts ?a_courses_of ?l_courses_of ?c_courses_of ?k_courses_of ?a_renamings_of ?l_renamings_of ?c_renamings_of ?k_renamings_of ?a_renamed ?l_renamed ?c_renamed ?k_renamed ?a_least_alike ?l_least_alike ?c_least_alike ?k_least_alike ?a_law_source ?l_law_source ?c_law_source ?k_law_source ?a_law_draw ?l_law_draw ?c_law_draw ?k_law_draw ?a_law_integer ?l_law_integer ?c_law_integer ?k_law_integer ?a_law_orders ?l_law_orders ?c_law_orders ?k_law_orders ?a_law_keeps ?l_law_keeps ?c_law_keeps ?k_law_keeps ?a_law_alike ?l_law_alike ?c_law_alike ?k_law_alike ?a_law ?l_law ?c_law ?k_law ?z_all ?z_bool ?z_int ?z_isinstance ?z_len ?z_list ?z_max ?z_min ?z_range ?z_tuple ?z_zip ?a_GREATEST_OF_COUNTS ?ag_LaneError ?ax_LaneError ?ak_LaneError ?ap_LaneError ?at_LaneError ?ai_LaneError ?ag_BadCounts ?ax_BadCounts ?ak_BadCounts ?ap_BadCounts ?at_BadCounts ?ai_BadCounts
    (case a_is_whole => k_is)
    (case l_is_whole => k_is)
    (case c_is_whole => k_is)
    (case k_is_whole => k_is)
    (case a_is_row => k_is)
    (case l_is_row => k_is)
    (case c_is_row => k_is)
    (case k_is_row => k_is)
    (case a_small_courses => k_is)
    (case l_small_courses => k_is)
    (case c_small_courses => k_is)
    (case k_small_courses => k_is)
    (case a_is_counts => k_is)
    (case l_is_counts => k_is)
    (case c_is_counts => k_is)
    (case k_is_counts => k_is)
    (case a_check_counts => k_is)
    (case l_check_counts => k_is)
    (case c_check_counts => k_is)
    (case k_check_counts => k_is)
    (case a_courses_of => k_is)
    (case l_courses_of => k_is)
    (case c_courses_of => k_is)
    (case k_courses_of => k_is)
    (case a_renamings_of => k_is)
    (case l_renamings_of => k_is)
    (case c_renamings_of => k_is)
    (case k_renamings_of => k_is)
    (case a_renamed => k_is)
    (case l_renamed => k_is)
    (case c_renamed => k_is)
    (case k_renamed => k_is)
    (case a_least_alike => k_is)
    (case l_least_alike => k_is)
    (case c_least_alike => k_is)
    (case k_least_alike => k_is)
    (case a_law_source => k_is)
    (case l_law_source => k_is)
    (case c_law_source => k_is)
    (case k_law_source => k_is)
    (case a_law_draw => k_is)
    (case l_law_draw => k_is)
    (case c_law_draw => k_is)
    (case k_law_draw => k_is)
    (case a_law_integer => k_is)
    (case l_law_integer => k_is)
    (case c_law_integer => k_is)
    (case k_law_integer => k_is)
    (case a_law_orders => k_is)
    (case l_law_orders => k_is)
    (case c_law_orders => k_is)
    (case k_law_orders => k_is)
    (case a_law_keeps => k_is)
    (case l_law_keeps => k_is)
    (case c_law_keeps => k_is)
    (case k_law_keeps => k_is)
    (case a_law_alike => k_is)
    (case l_law_alike => k_is)
    (case c_law_alike => k_is)
    (case k_law_alike => k_is)
    (case a_law => k_is)
    (case l_law => k_is)
    (case c_law => k_is)
    (case k_law => k_is)
    (case z_all => k_is)
    (case z_bool => k_is)
    (case z_int => k_is)
    (case z_isinstance => k_is)
    (case z_len => k_is)
    (case z_list => k_is)
    (case z_max => k_is)
    (case z_min => k_is)
    (case z_range => k_is)
    (case z_tuple => k_is)
    (case z_zip => k_is)
    (case a_GREATEST_OF_COUNTS => k_is)
    (case ag_LaneError => k_is)
    (case ax_LaneError => k_exc)
    (case ak_LaneError => k_is)
    (case ap_LaneError => k_is)
    (case at_LaneError => k_is)
    (case ai_LaneError => k_is)
    (case ag_BadCounts => k_is)
    (case ax_BadCounts => k_exc)
    (case ak_BadCounts => k_is)
    (case ap_BadCounts => k_is)
    (case at_BadCounts => k_is)
    (case ai_BadCounts => k_is)
