import PyProof.Rows.All
import Wide.All
import OpenK.AllK
import Wide.FinOn
import PySem.Challenge.RW_lanescounted_k01_marks_refused
import HandS.ForMost
import HandS.ForExc
import HandS.Wide
import HandS.IsInst
import HandS.EndBits
import HandS.Small
import HandS.FStr
import HandS.Gcd
import HandS.ExcIs
import HandS.TryMany
set_option Elab.async false
set_option linter.all false
set_option maxRecDepth 100000
set_option maxHeartbeats 4000000
namespace Lc
open PySem PySem.Spec PyProof.Rows L2
/-! ### great ints -/
/-- two factors of together less than a hundred million bits -/
def CMulX (i j : Int) : Prop := i.natAbs.log2 + j.natAbs.log2 < 100000000
theorem intBits_le (x : Int) : Builtin.Int.intBits x ≤ x.natAbs.log2 + 1 := by
  unfold Builtin.Int.intBits; split <;> omega
theorem CMulX.ok {i j : Int} (h : CMulX i j) : IntMulOk i j := by
  have a := intBits_le i
  have b := intBits_le j
  unfold CMulX at h
  intro z
  have y := (Bool.and_eq_true _ _ ▸ z).2
  unfold Builtin.Int.intTooBig at y
  have x := of_decide_eq_true y
  have l : bitsLine = 134217728 := by decide
  omega
theorem op_mulX {X : Cx} : OpR X (binaryOp .Mult) (rI CMulX fun i j => .int (i * j)) := opI fun _ _ _ _ _ _ _ hc q => mul_int q hc.ok
/-- few bits -/
def Few (i : Int) : Prop := i.natAbs.log2 ≤ 2000000
theorem few_of {i : Int} (h : i.natAbs < 2 ^ 240) : Few i := by
  have := PySem.Flt.log2_lt_of (n := i.natAbs) (k := 240) (by omega) h
  unfold Few; omega
theorem few_le {i : Int} {b : Int} (h0 : 0 ≤ i) (h : i ≤ b) (hb : b.natAbs < 2 ^ 240) : Few i := few_of (Nat.lt_of_le_of_lt (by omega) hb)
theorem mulX {i j : Int} (h : Few i) (h' : Few j) : CMulX i j := by unfold CMulX; unfold Few at h h'; omega
theorem divX {i j : Int} (h : 0 < j) (hb : j.natAbs < 2 ^ 240) : CDivW i j := wide_div (b := 240) h hb (by decide) (by decide)
theorem log2_mono {a b : Nat} (h : a ≤ b) : a.log2 ≤ b.log2 := by
  rcases Nat.eq_zero_or_pos a with h0 | h0
  · subst h0; simp
  · have hb : b ≠ 0 := by omega
    have h1 : 2 ^ a.log2 ≤ a := Nat.log2_self_le (by omega)
    exact (Nat.le_log2 hb).mpr (by omega)
theorem bits_log {z : Int} (h : Builtin.Int.intBits z ≤ 1048576) : z.natAbs.log2 ≤ 1048576 := by
  unfold Builtin.Int.intBits at h
  split at h
  · rename_i h0; simp_all
  · omega
/-! ### heaps -/
/-- all that was tracked, but for a, is as it was -/
def But (a : Addr) (H H' : Hp) : Prop := ∀ b o, b ≠ a → H b = some o → H' b = some o
theorem But.refl (a : Addr) (H : Hp) : But a H H := fun _ _ _ h => h
theorem But.trans {a : Addr} {H H1 H2 : Hp} (x : But a H H1) (y : But a H1 H2) : But a H H2 := fun b o n h => y b o n (x b o n h)
theorem But.same {a : Addr} {H H1 H2 : Hp} (x : But a H H1) (y : Same H1 H2) : But a H H2 := fun b o n h => y b o (x b o n h)
theorem Same.but {a : Addr} {H H1 : Hp} (y : Same H H1) : But a H H1 := fun b o _ h => y b o h
theorem But.new {a : Addr} {H H1 H2 : Hp} (y : Same H H1) (x : But a H1 H2) : But a H H2 := fun b o n h => x b o n (y b o h)
theorem same_upd {H : Hp} {p : Addr} {o : HO} (h : H p = none) : Same H (upd H p o) := fun b x e => by
  rw [upd_ne (ne_of_none e h)]
  exact e
theorem But.upd {a : Addr} {H H' : Hp} {o : HO} (x : But a H H') : But a H (upd H' a o) := fun b u n h => by
  rw [upd_ne n]
  exact x b u n h
/-! ### statements joined behind an if -/
theorem seq_cut {t u : TS} {D : Ends} {σ : L2.St} {H : Hp} (M : L2.St → Hp → Prop) (h2 : ∀ σ' H', M σ' H' → u D σ' H') (h1 : (∀ σ' H', M σ' H' → u D σ' H') → t { D with nx := u D } σ H) : tSeq t u D σ H := h1 h2
theorem if_cut {c : TT} {t1 t2 u : TS} {D : Ends} {σ : L2.St} {H : Hp} (M : L2.St → Hp → Prop) (h2 : ∀ σ' H', M σ' H' → u D σ' H') (h1 : (∀ σ' H', M σ' H' → u D σ' H') → tIfS c t1 t2 { D with nx := u D } σ H) : tSeq (tIfS c t1 t2) u D σ H := h1 h2
/-! ### the source of draws -/
structure Src (H : Hp) (a : Addr) (n : Nat) : Prop where
  ex : ∃ (l : Addr) (ns : List Int) (x y z : Int), H a = some (.lst [.ref l, .int x, .int y, .int z]) ∧ H l = some (.lst (ns.map V.int)) ∧ (∀ k ∈ ns, k.natAbs.log2 ≤ 1048576) ∧ ns.length ≤ 63 ∧
    0 ≤ x ∧ x.natAbs.log2 ≤ 1048576 ∧ 0 ≤ y ∧ y < 2147483647 ∧ 0 ≤ z ∧ z ≤ (n : Int)
def spDraw : Sp := fun vs H Q _ => ∃ (a : Addr) (n : Nat) (lim : Int), vs = [.ref a, .int lim] ∧ Src H a n ∧ n < 1000000 ∧ 1 ≤ lim ∧ lim ≤ 1000000000000 ∧
  ∀ d H', 0 ≤ d → d < lim → Src H' a (n + 1) → But a H H' → Q (.int d) H'
def spSource (K : PySem.W.Frag) : Sp := fun vs H Q _ => ∃ (a : Addr) (ns : List Int), vs = [.ref a] ∧ SqL K H a (ns.map V.int) ∧ ns.length ≤ 63 ∧ (∀ z ∈ ns, Builtin.Int.intBits z ≤ 1048576) ∧
  ∀ p H', H p = none → Src H' p 0 → Same H H' → Q (.ref p) H'
def spGreat : Sp := fun vs H Q _ => ∃ (a : Addr) (n : Nat) (lim : Int), vs = [.ref a, .int lim] ∧ Src H a n ∧ n + 5 < 1000000 ∧ 1 ≤ lim ∧ lim ≤ 10 ^ 60 ∧
  ∀ d H', 0 ≤ d → d < lim → Src H' a (n + 5) → But a H H' → Q (.int d) H'
/-- what is behind the first if of a draw -/
structure Mid (H0 : Hp) (a : Addr) (n : Nat) (H : Hp) : Prop where
  src : Src H a n
  but : But a H0 H
theorem src_ne {H : Hp} {a b : Addr} {n : Nat} (S : Src H a n) (h : H b = none) : b ≠ a := by
  obtain ⟨l, ns, x, y, z, h1, _⟩ := S.ex
  intro e; subst e; rw [h] at h1; cases h1
theorem Src.le {H : Hp} {a : Addr} {n m : Nat} (S : Src H a n) (h : n ≤ m) : Src H a m := by
  obtain ⟨l, ns, x, y, z, h1, h2, h3, h4, h5, h6, h7, h8, h9, h10⟩ := S.ex
  exact ⟨l, ns, x, y, z, h1, h2, h3, h4, h5, h6, h7, h8, h9, by omega⟩
theorem Src.same {H H' : Hp} {a : Addr} {n : Nat} (S : Src H a n) (k : Same H H') : Src H' a n := by
  obtain ⟨l, ns, x, y, z, h1, h2, h3⟩ := S.ex
  exact ⟨l, ns, x, y, z, k _ _ h1, k _ _ h2, h3⟩
theorem cut1 (l : List V) : cutV l (some 1) none = l.drop 1 := by
  have e1 : HT.sIx l.length 0 (some 1) = min 1 l.length := HT.sIx_nat l.length 0 1
  have e2 : HT.sIx l.length l.length none = l.length := HT.sIx_none ..
  show ((l.drop (HT.sIx l.length 0 (some 1))).take (HT.sIx l.length l.length none - HT.sIx l.length 0 (some 1))) = l.drop 1
  rw [e1, e2]
  match l with
  | [] => rfl
  | a :: r =>
    have e3 : min 1 (a :: r).length = 1 := Nat.min_eq_left (by simp)
    rw [e3]
    exact List.take_of_length_le (by simp)
theorem idiv_log {x j : Int} (h0 : 0 ≤ x) (hj : 1 ≤ j) {k : Nat} (h : x.natAbs.log2 ≤ k) : (x / j).natAbs.log2 ≤ k := by
  have h1 : 0 ≤ x / j := Int.ediv_nonneg h0 (by omega)
  have h2 : x / j ≤ x := Int.ediv_le_self j h0
  have h3 : (x / j).natAbs ≤ x.natAbs := by omega
  exact Nat.le_trans (log2_mono h3) h
def pw9 : Nat → Int
  | 0 => 1
  | n + 1 => pw9 n * 1000000000
theorem pw9_le {i : Nat} (h : i ≤ 5) : pw9 i ≤ 1000000000000000000000000000000000000000000000 := by
  match i, h with
  | 0, _ => decide
  | 1, _ => decide
  | 2, _ => decide
  | 3, _ => decide
  | 4, _ => decide
  | 5, _ => decide
theorem few_bits {k : Int} (h : k.natAbs.log2 ≤ 1048576) : Few k := by unfold Few; omega
theorem ends_true {Q : VK} {b : Bool} {H : Hp} (q : ∀ H', Q (.bl true) H') (h : b = true) : Q (.bl b) H := h ▸ q H
/-! ### what an object is -/
inductive Arg (K : PySem.W.Frag) (H : Hp) : V → String → Prop where
  | non : Arg K H .non "NoneType"
  | bl (b : Bool) : Arg K H (.bl b) "bool"
  | int (i : Int) : Arg K H (.int i) "int"
  | str (x : Str) : Arg K H (.str x) "str"
  | lst {a : Addr} {xs : List V} (e : H a = some (.lst xs)) : Arg K H (.ref a) "list"
  | tup {a : Addr} {xs : List V} (e : H a = some (.tup xs)) : Arg K H (.ref a) "tuple"
  | dK {a : Addr} {kvs : List (Key × V)} (e : H a = some (.dK kvs)) : Arg K H (.ref a) "dict"
def isI : V → Bool
  | .int _ => true | .bl _ => true | _ => false
def isB : V → Bool
  | .bl _ => true | _ => false
def isS : V → Bool
  | .str _ => true | _ => false
section
variable {K : PySem.W.Frag} {H : Hp} {x : V} {n : String}
theorem Arg.ty (h : Arg K H x n) : TyX K H x (.type n) := by
  cases h with
  | non => exact .base .non
  | bl b => exact .base (.bl b)
  | int i => exact .base (.int i)
  | str s => exact .base (.str s)
  | lst e => exact .base (.lst e)
  | tup e => exact .base (.tup e)
  | dK e => exact .base (.dK e)
theorem Arg.int? (h : Arg K H x n) : PySem.W.kitOne K (.type n) (.type "int") = some (isI x) := by
  cases h <;> first | exact kit_ty (r := true) (by decide +kernel) | exact kit_ty (r := false) (by decide +kernel)
theorem Arg.bool? (h : Arg K H x n) : PySem.W.kitOne K (.type n) (.type "bool") = some (isB x) := by
  cases h <;> first | exact kit_ty (r := true) (by decide +kernel) | exact kit_ty (r := false) (by decide +kernel)
theorem Arg.str? (h : Arg K H x n) : PySem.W.kitOne K (.type n) (.type "str") = some (isS x) := by
  cases h <;> first | exact kit_ty (r := true) (by decide +kernel) | exact kit_ty (r := false) (by decide +kernel)
end
/-- an integer from lo to hi, no bool -/
def wholeV (x : V) (lo hi : Int) : Bool := match x with
  | .int i => decide (lo ≤ i) && decide (i ≤ hi)
  | _ => false
def wordV (x : V) (ws : List Str) : Bool := match x with
  | .str s => decide (s ∈ ws)
  | _ => false
theorem inV_str (s : Str) (ws : List Str) : inV (.str s) (ws.map V.str) = decide (s ∈ ws) := by
  unfold inV
  induction ws with
  | nil => rfl
  | cons w r ih =>
    rw [List.map_cons, List.any_cons, ih]
    show ((w == s) || decide (s ∈ r)) = decide (s ∈ w :: r)
    by_cases e : w = s
    · subst e; simp
    · have e2 : (w == s) = false := beq_eq_false_iff_ne.mpr e
      have e3 : ¬ s = w := fun z => e z.symm
      rw [e2, Bool.false_or]
      simp [e3]
theorem all_flat_str (ws : List Str) : (ws.map V.str).all flatV = true := by
  induction ws with
  | nil => rfl
  | cons w r ih => rw [List.map_cons, List.all_cons, ih]; rfl
theorem atI_two {α : Type} {x y : α} {d : Int} (h0 : 0 ≤ d) (h1 : d < 2) : atI [x, y] d = some (if d = 0 then x else y) := by
  have h : d = 0 ∨ d = 1 := by omega
  rcases h with rfl | rfl <;> rfl
theorem atI_three {α : Type} {x y z : α} {d : Int} (h0 : 0 ≤ d) (h1 : d < 3) : atI [x, y, z] d = some (if d = 0 then x else if d = 1 then y else z) := by
  have h : d = 0 ∨ d = 1 ∨ d = 2 := by omega
  rcases h with rfl | rfl | rfl <;> rfl
def spWhole (K : PySem.W.Frag) : Sp := fun vs H Q _ => ∃ (x : V) (lo hi : Int) (n : String), vs = [x, .int lo, .int hi] ∧ Arg K H x n ∧ Q (.bl (wholeV x lo hi)) H
def spWord (K : PySem.W.Frag) : Sp := fun vs H Q _ => ∃ (x : V) (t : Addr) (ws : List Str) (n : String), vs = [x, .ref t] ∧ SqT K H t (ws.map V.str) ∧ Arg K H x n ∧ Q (.bl (wordV x ws)) H
def spIsInt (K : PySem.W.Frag) : Sp := fun vs H Q _ => ∃ (x : V) (n : String), vs = [x] ∧ Arg K H x n ∧ Q (.bl (isI x && !isB x)) H
/-- what a def hands back or raises, nothing written -/
def spRes (exc : String → Addr) (r : Except String V) (H : Hp) (Q : VK) (E : XK) : Prop := match r with
  | .ok v => Q v H
  | .error n => E (.ref (exc n)) none H
theorem ite_of {c : Prop} [Decidable c] {α : Type} {a b : α} (h : c) : (if c then a else b) = a := if_pos h
/-! ### tables: what its defs hand back or raise -/
def kindV (x : V) : Bool := wordV x ["rest", "ranges"]
def laneAt (k : V) (c m s : Int) : Int := if k = .str "rest" then m % c else m * c / s
def laneOf (k c m s : V) : Except String V :=
  if kindV k = false then .error "BadKind" else if wholeV c 1 (10 ^ 20) = false then .error "BadCount" else if wholeV m 0 (10 ^ 40) = false then .error "BadMark" else
  if wholeV s 1 (10 ^ 40) = false then .error "BadSize" else match c, m, s with
    | .int c, .int m, .int s => if s ≤ m then .error "BadMark" else .ok (.int (laneAt k c m s))
    | _, _, _ => .ok .non
def spChk (K : PySem.W.Frag) (exc : String → Addr) (good : V → Bool) (n : String) : Sp := fun vs H Q E => ∃ (x : V) (tn : String), vs = [x] ∧ Arg K H x tn ∧ spRes exc (if good x = false then .error n else .ok .non) H Q E
def spChkC (K : PySem.W.Frag) (exc : String → Addr) : Sp := fun vs H Q E => ∃ (x : V) (g : Int) (tn : String), vs = [x, .int g] ∧ (g = 10 ^ 20 ∨ g = 1000) ∧ Arg K H x tn ∧ spRes exc (if wholeV x 1 g = false then .error "BadCount" else .ok .non) H Q E
def spLaneAt : Sp := fun vs H Q _ => ∃ (k : Str) (c m s : Int), vs = [.str k, .int c, .int m, .int s] ∧ 1 ≤ c ∧ c ≤ 10 ^ 20 ∧ 0 ≤ m ∧ m < s ∧ s ≤ 10 ^ 40 ∧ Q (.int (laneAt (.str k) c m s)) H
def spLaneOf (K : PySem.W.Frag) (exc : String → Addr) : Sp := fun vs H Q E => ∃ (k c m s : V) (tk tc tm ts : String), vs = [k, c, m, s] ∧ Arg K H k tk ∧ Arg K H c tc ∧ Arg K H m tm ∧ Arg K H s ts ∧ spRes exc (laneOf k c m s) H Q E
theorem whole_int {x : V} {lo hi : Int} (h : wholeV x lo hi = true) : ∃ i, x = .int i ∧ lo ≤ i ∧ i ≤ hi := by
  cases x with
  | int i =>
    have h2 : (decide (lo ≤ i) && decide (i ≤ hi)) = true := h
    rw [Bool.and_eq_true] at h2
    exact ⟨i, rfl, of_decide_eq_true h2.1, of_decide_eq_true h2.2⟩
  | _ => exact nomatch h
theorem word_str {x : V} {ws : List Str} (h : wordV x ws = true) : ∃ s, x = .str s ∧ s ∈ ws := by
  cases x with
  | str s => exact ⟨s, rfl, of_decide_eq_true h⟩
  | _ => exact nomatch h
theorem whole_of {i lo hi : Int} (h : lo ≤ i) (h' : i ≤ hi) : wholeV (.int i) lo hi = true := by
  show (decide (lo ≤ i) && decide (i ≤ hi)) = true
  rw [decide_eq_true h, decide_eq_true h']; rfl
theorem fmt20 : (toString ((10 : Int) ^ 20) : Str).length = 21 := by decide +kernel
/-! ### lcm, and ranges of any ints -/
def rLcm : List V → Hp → VK → Prop := fun vs H Q => ∃ a b : Nat, vs = [.int (a : Int), .int (b : Int)] ∧ a < 10 ^ 40 ∧ b < 10 ^ 40 ∧ 0 < a ∧ Q (.int ((Nat.lcm a b : Nat) : Int)) H
theorem cr_lcm {X : Cx} : CallR X (.builtin "math.lcm") rLcm := by
  intro pins s σ H vs us Q I r h
  obtain ⟨a, b, rfl, ha, hb, h0, q⟩ := h
  obtain ⟨t, u, rfl⟩ := Vals.int2 r
  have la : (max 1 ((a : Int).natAbs)).log2 ≤ 199 := PySem.W.mg_log (Nat.lt_of_lt_of_le (by rw [Int.natAbs_natCast]; omega : max 1 ((a : Int).natAbs) < 10 ^ 40) (by decide))
  have lb : (max ((a : Int).natAbs) ((b : Int).natAbs)).log2 ≤ 199 := PySem.W.mg_log (Nat.lt_of_lt_of_le (by rw [Int.natAbs_natCast, Int.natAbs_natCast]; omega : max ((a : Int).natAbs) ((b : Int).natAbs) < 10 ^ 40) (by decide))
  have e : ((Nat.lcm 1 ((a : Int).natAbs)).lcm ((b : Int).natAbs) : Nat) = Nat.lcm a b := by rw [Int.natAbs_natCast, Int.natAbs_natCast, Nat.lcm_one_left]
  have ls : (((((Nat.lcm 1 ((a : Int).natAbs)).lcm ((b : Int).natAbs) : Nat)) : Int)).natAbs.log2 < bitsLine := by
    rw [e, Int.natAbs_natCast]
    have h1 : Nat.lcm a b ≤ a * b := by
      unfold Nat.lcm; exact Nat.div_le_self _ _
    have h2 : a * b ≤ 10 ^ 40 * 10 ^ 40 := Nat.mul_le_mul (Nat.le_of_lt ha) (Nat.le_of_lt hb)
    have h3 : (Nat.lcm a b).log2 ≤ 399 := PySem.W.mg_log (Nat.lt_of_le_of_lt (Nat.le_trans h1 h2) (by decide))
    exact Nat.lt_of_le_of_lt h3 (by decide)
  exact PySem.call_function_meets PySem.W.MGF.kind_lcm PySem.W.MGF.plain_lcm PySem.W.MGF.entry_lcm (PySem.W.MGF.args_lcm _ _) (PySem.W.mg_run_lcm _ t _ u (by omega) (by omega) ls).meets ⟨.int _, H, I.tok _, ⟨_, rfl⟩, (by rw [e]; exact q)⟩
theorem turn_long {P : Program} {w : World} {K : PySem.W.Frag} {tg : Expr} (c : Addr) (lo : Int) (n : Nat) : Turn P w K tg (Itr lo n) [c] c (fun i h => IsLongIter h c (lo + (i : Nat) * 1) ((n : Int) - (i : Nat)) 1) := by
  refine { mem := List.mem_singleton.mpr rfl, obj := ?o, keep := ?k, item := ?i, done := ?d, self := ?s }
  case o =>
    intro i h hc b hb
    cases List.mem_singleton.mp hb
    exact ⟨_, hc, fun v (z : Data.fields _ = Data.cell v) => nomatch z⟩
  case k => exact fun i h h' hc k => k c (List.mem_singleton.mpr rfl) _ hc
  case i =>
    rintro X rfl rfl rfl hh i pins s σ H E I hf hc hg
    have hq := hf c (List.mem_singleton.mpr rfl)
    obtain ⟨q0, q1, q2, q3, q4, q5⟩ := hq
    refine (Walks.longrange (prog := X.prog) (w := X.w) (I.ok.hd hh) c lo 1 n).item i s _ _ hg hc fun v h' tk hv hc' hk => ?_
    obtain ⟨t, rfl⟩ := hv
    have J : Inv X pins σ H { s with heap := h', toks := tk } := I.turned (fun b o hb e => hk b o (fun z => hb (List.mem_singleton.mp z)) e) q0 q1 q3 q4 q5
    exact ⟨_, rfl, go_of (s := { s with heap := h', toks := tk }) (n := "longrange_iterator") hc' rfl rfl (by decide) ⟨.int (lo + i), H, J, ⟨t, by rw [Int.mul_one]⟩, ⟨rfl, rfl⟩, hc', fun b hb => (hf b hb).1⟩⟩
  case d =>
    rintro X rfl rfl rfl hh i pins s σ H E I hf hc hg
    obtain ⟨q0, q1, q2, q3, q4, q5⟩ := hf c (List.mem_singleton.mpr rfl)
    have hni : n ≤ i := hg
    exact wpAny_pyNext_long_end (I.ok.hd hh) hc (by omega) fun h' k => ⟨rfl, I.turned (t' := s.toks) (fun b o hb e => k b o hb e) q0 q1 q3 q4 q5⟩
  case s => exact fun _ _ _ _ _ hc h => wpAny_pyIter_longiter hc h
theorem any_range {X : Cx} {tg : Expr} {pins : List (Addr × Obj)} {σ : L2.St} {H : Hp} {s : Shared} {R : It → Hp → Prop} {E : Value → Shared → Prop} {lo hi : Int} {t u v : Tok} {tk : Nat} (I : Inv X pins σ H s) (q : R (Itr lo (hi - lo).toNat) H) :
    wpAny (model X.prog X.w) X.A (pyIter (.ref s.heap.objs.size)) (PIE X pins σ tg R) E { s with heap := s.heap.push { cls := .type "range", data := .fields #[.int lo t, .int hi u, .int 1 v] }, toks := tk } := by
  have J : Inv X pins σ H { s with heap := s.heap.push { cls := .type "range", data := .fields #[.int lo t, .int hi u, .int 1 v] }, toks := tk } := I.kept fun b o e => Heap.get?_push_of_some _ e
  have ez : lo + ((0 : Nat) : Int) * 1 = lo := by omega
  have en : (((hi - lo).toNat : Nat) : Int) - ((0 : Nat) : Int) = Builtin.Range.rangeSize lo hi 1 := by
    rw [rangeSize_one]; split <;> omega
  cases hsm : Builtin.Range.small lo hi 1 with
  | true =>
    refine wpAny_pyIter_range (IsRange.new ..) hsm ?_
    refine ⟨_, [_], _, _, H, rfl, J.kept (t' := tk) fun b o e => Heap.get?_push_of_some _ e, turn_range _ lo (hi - lo).toNat, ?_, fun b hb => ?_, q⟩
    · show IsRangeIter _ _ (lo + ((0 : Nat) : Int) * 1) ((((hi - lo).toNat : Nat) : Int) - ((0 : Nat) : Int)) 1
      rw [ez, en]; exact Heap.get?_push_size _ rfl
    · cases List.mem_singleton.mp hb
      exact J.fpOk (Nat.le_refl _) (J.hok.fresh (Nat.le_refl _))
  | false =>
    refine wpAny_pyIter_longrange (IsRange.new ..) hsm ?_
    refine ⟨_, [_], _, _, H, rfl, J.kept (t' := tk) fun b o e => Heap.get?_push_of_some _ e, turn_long _ lo (hi - lo).toNat, ?_, fun b hb => ?_, q⟩
    · show IsLongIter _ _ (lo + ((0 : Nat) : Int) * 1) ((((hi - lo).toNat : Nat) : Int) - ((0 : Nat) : Int)) 1
      rw [ez, en]; exact Heap.get?_push_size _ rfl
    · cases List.mem_singleton.mp hb
      exact J.fpOk (Nat.le_refl _) (J.hok.fresh (Nat.le_refl _))
def iRngA (ta : TA) : TI := fun σ H R => ta σ H fun vs H1 => ∃ i j : Int, vs = [.int i, .int j] ∧ R (Itr i (j - i).toNat) H1
theorem pi_rangeA {X : Cx} {tg a b : Expr} {ta : TA} {p pos : Pos} (hg : Gl X "range") (hm : X.mg "range" = none) (ha : PA X [a, b] ta) (hs : starEach [a, b] X.env = [(false, eval a X.env), (false, eval b X.env)] := by rfl) (hs2 : starEach [b] X.env = [(false, eval b X.env)] := by rfl) :
    PI X tg (.Call (.Name "range" p) [a, b] [] pos) (iRngA ta) := by
  refine ⟨fun pins s σ H R I h => Call_ (ld_blt I hg hm boot_range (PyProof.Rows.callWith_type1 (thn (ha.run pos pins s σ H _ I h) fun us s1 hh => ?_) (by rw [hs, hs2]) (by rw [hs2]; rfl)))⟩
  obtain ⟨vs, H1, J, r1, i, j, e, q⟩ := hh
  subst e
  obtain ⟨t, t', rfl⟩ := Vals.int2 r1
  exact call_range_2 (any_range J q)
/-! ### marks that move -/
def lstart (l c s : Int) : Int := (l * s + c - 1) / c
def lcmI (a b : Int) : Int := ((Nat.lcm a.toNat b.toNat : Nat) : Int)
def keptRest (low high size : Int) : Int := size / lcmI low high * low + (if low < size % lcmI low high then low else size % lcmI low high)
def gapI (high low size : Int) (l : Int) : Int := if lstart (l + 1) high size - lstart l low size > 0 then lstart (l + 1) high size - lstart l low size else 0
def keptR (high low size : Int) : Nat → Int
  | 0 => 0
  | n + 1 => keptR high low size n + gapI high low size (n : Int)
inductive FirstR (low high size : Int) : V → Prop where
  | at (l : Int) (h1 : 1 ≤ l) (h2 : l ≤ low) (h3 : lstart l high size < lstart l low size) (h4 : ∀ j, 1 ≤ j → j < l → lstart j low size ≤ lstart j high size) : FirstR low high size (.int (lstart l high size))
  | no (h : ∀ j, 1 ≤ j → j ≤ low → lstart j low size ≤ lstart j high size) : FirstR low high size .non
def lowI (b a : Int) : Int := if a < b then a else b
def highI (b a : Int) : Int := if a > b then a else b
def countM (k : Str) (b a s : Int) : Int := if V.str k = .str "rest" then s - keptRest (lowI b a) (highI b a) s else s - keptR (highI b a) (lowI b a) s (lowI b a).toNat
def FirstM (k : Str) (b a s : Int) (r : V) : Prop := if V.str k = .str "ranges" then FirstR (lowI b a) (highI b a) s r else
  r = (if lowI b a < (if s < highI b a then s else highI b a) then .int (lowI b a) else .non)
def mostOf (k : V) : Int := if k = .str "rest" then 10 ^ 20 else 1000
def chkM (k b a s : V) : Option String :=
  if kindV k = false then some "BadKind" else if wholeV b 1 (mostOf k) = false then some "BadCount" else if wholeV a 1 (mostOf k) = false then some "BadCount" else if wholeV s 1 (10 ^ 40) = false then some "BadSize" else none
structure Mvd (ks : Str) (b a s : Int) : Prop where
  k : kindV (.str ks) = true
  b1 : 1 ≤ b
  b2 : b ≤ mostOf (.str ks)
  a1 : 1 ≤ a
  a2 : a ≤ mostOf (.str ks)
  s1 : 1 ≤ s
  s2 : s ≤ 10 ^ 40
theorem chkM_none {k b a s : V} (h : chkM k b a s = none) : ∃ ks bi ai si, k = .str ks ∧ b = .int bi ∧ a = .int ai ∧ s = .int si ∧ Mvd ks bi ai si := by
  unfold chkM at h
  cases e1 : kindV k with
  | false => rw [if_pos e1] at h; cases h
  | true =>
  rw [if_neg (by rw [e1]; decide)] at h
  cases e2 : wholeV b 1 (mostOf k) with
  | false => rw [if_pos e2] at h; cases h
  | true =>
  rw [if_neg (by rw [e2]; decide)] at h
  cases e3 : wholeV a 1 (mostOf k) with
  | false => rw [if_pos e3] at h; cases h
  | true =>
  rw [if_neg (by rw [e3]; decide)] at h
  cases e4 : wholeV s 1 (10 ^ 40) with
  | false => rw [if_pos e4] at h; cases h
  | true =>
  obtain ⟨bi, rfl, b1, b2⟩ := whole_int e2
  obtain ⟨ai, rfl, a1, a2⟩ := whole_int e3
  obtain ⟨si, rfl, s1, s2⟩ := whole_int e4
  obtain ⟨ks, rfl, _⟩ := word_str e1
  exact ⟨ks, bi, ai, si, rfl, rfl, rfl, rfl, e1, b1, b2, a1, a2, s1, s2⟩
theorem chkM_ok {ks : Str} {b a s : Int} (h : Mvd ks b a s) : chkM (.str ks) (.int b) (.int a) (.int s) = none := by
  unfold chkM
  rw [if_neg (by rw [h.k]; decide), if_neg (by rw [whole_of h.b1 h.b2]; decide), if_neg (by rw [whole_of h.a1 h.a2]; decide), if_neg (by rw [whole_of h.s1 h.s2]; decide)]
/-- one who asks: the error, or what comes of good ones -/
def spAskM (K : PySem.W.Frag) (exc : String → Addr) (G : Str → Int → Int → Int → V → Prop) : Sp := fun vs H Q E => ∃ (k b a s : V) (tk tb ta ts : String), vs = [k, b, a, s] ∧ Arg K H k tk ∧ Arg K H b tb ∧ Arg K H a ta ∧ Arg K H s ts ∧
  (∀ n, chkM k b a s = some n → E (.ref (exc n)) none H) ∧ (∀ ks bi ai si, k = .str ks → b = .int bi → a = .int ai → s = .int si → Mvd ks bi ai si → ∀ r, G ks bi ai si r → Q r H)
def spLstart : Sp := fun vs H Q _ => ∃ l c s : Int, vs = [.int l, .int c, .int s] ∧ 0 ≤ l ∧ l ≤ 2000 ∧ 1 ≤ c ∧ c ≤ 1000 ∧ 1 ≤ s ∧ s ≤ 10 ^ 40 ∧ Q (.int (lstart l c s)) H
def spKeptRest : Sp := fun vs H Q _ => ∃ l h s : Int, vs = [.int l, .int h, .int s] ∧ 1 ≤ l ∧ l ≤ 10 ^ 20 ∧ 1 ≤ h ∧ h ≤ 10 ^ 20 ∧ 1 ≤ s ∧ s ≤ 10 ^ 40 ∧ Q (.int (keptRest l h s)) H
def spKeptRanges : Sp := fun vs H Q _ => ∃ l h s : Int, vs = [.int l, .int h, .int s] ∧ 1 ≤ l ∧ l ≤ 1000 ∧ 1 ≤ h ∧ h ≤ 1000 ∧ 1 ≤ s ∧ s ≤ 10 ^ 40 ∧ Q (.int (keptR h l s l.toNat)) H
def spFirstRanges : Sp := fun vs H Q _ => ∃ l h s : Int, vs = [.int l, .int h, .int s] ∧ 1 ≤ l ∧ l ≤ 1000 ∧ 1 ≤ h ∧ h ≤ 1000 ∧ 1 ≤ s ∧ s ≤ 10 ^ 40 ∧ ∀ r, FirstR l h s r → Q r H
theorem lcmI_pos {a b : Int} (ha : 1 ≤ a) (hb : 1 ≤ b) : 1 ≤ lcmI a b := by
  unfold lcmI
  have : 0 < Nat.lcm a.toNat b.toNat := Nat.lcm_pos (by omega) (by omega)
  omega
theorem lcmI_le {a b : Int} (ha : 1 ≤ a) (hb : 1 ≤ b) (ha2 : a ≤ 10 ^ 20) (hb2 : b ≤ 10 ^ 20) : lcmI a b ≤ 10 ^ 40 := by
  unfold lcmI
  have h1 : Nat.lcm a.toNat b.toNat ≤ a.toNat * b.toNat := by
    unfold Nat.lcm; exact Nat.div_le_self _ _
  have h2 : a.toNat * b.toNat ≤ 10 ^ 20 * 10 ^ 20 := Nat.mul_le_mul (by omega) (by omega)
  have h3 : (10 : Nat) ^ 20 * 10 ^ 20 = 10 ^ 40 := by decide
  omega
theorem most_cases {ks : Str} (h : kindV (.str ks) = true) : (V.str ks = .str "rest" ∧ mostOf (.str ks) = 10 ^ 20) ∨ (V.str ks = .str "ranges" ∧ ¬ V.str ks = .str "rest" ∧ mostOf (.str ks) = 1000) := by
  obtain ⟨s, e, hs⟩ := word_str h
  cases e
  rcases List.mem_cons.mp hs with rfl | hs
  · exact .inl ⟨rfl, rfl⟩
  · rcases List.mem_cons.mp hs with rfl | hs
    · exact .inr ⟨rfl, by decide, rfl⟩
    · exact nomatch hs
/-! ### errors caught -/
theorem exm_pair {K : PySem.W.Frag} {A B : Addr} {b : Bool} (p : PySem.W.subIn K (.ref B) (.type "BaseException") = some true) (i : PySem.W.isClsIn K B = true) (t : PySem.W.typeIn K (.ref B) = some (.type "type")) (q : PySem.W.subIn K (.ref A) (.ref B) = some b) :
    PySem.W.exmOne K (.ref A) (.ref B) = some b := by
  have i' : (PySem.W.clsIn K B).isSome = true := i
  unfold PySem.W.exmOne PySem.W.kitCls
  rw [p]
  dsimp only
  rw [i', t]
  exact q
theorem kit_ve {K : PySem.W.Frag} {A : Addr} {b : Bool} (q : PySem.W.subIn K (.ref A) (.type "ValueError") = some b) : PySem.W.kitOne K (.ref A) (.type "ValueError") = some b := by
  have m : PySem.W.kitMeta "ValueError" = true := by decide +kernel
  unfold PySem.W.kitOne PySem.W.kitCls
  dsimp only
  rw [m]
  exact q
/-- isinstance of the error that a suite holds -/
def rIsG (K : PySem.W.Frag) (a : Addr) (cls : Value) (d : Option Addr) : List V → Hp → VK → Prop := fun xs H Q => ∃ D, cls = .ref D ∧ d = none ∧ ExcC K D ∧ rIsE K D a xs H Q
theorem call_isG {X : Cx} {a : Addr} {oe : Obj} {cls : Value} {d : Option Addr} {pn : List (Addr × Obj)} (hz : Zc cls d oe) (hf : ∃ vs, oe.data = .fields vs) : CallR (X.suite a ((a, oe) :: pn)) (.builtin "isinstance") (rIsG X.K a cls d) := by
  intro pins s σ H xs us Q I r h
  obtain ⟨D, rfl, rfl, C, h⟩ := h
  exact call_isE C hz hf pins s σ H xs us Q I r h
end Lc
namespace K01
open PySem PySem.Spec PyProof.Rows L2 Lc
def topS (i : Nat) : Stmt := PySem.Challenge.pw_lanescounted_k01_marks_refused.main.body.getD i (.Pass ⟨0, 0, 0, 0⟩)
abbrev s_is_whole : Stmt := topS 2
theorem sc_is_whole : FnScope ["thing", "low", "high"] ["thing", "low", "high"] (defScope s_is_whole) := ⟨rfl, rfl, rfl, by decide +kernel, rfl, by decide +kernel, by decide +kernel⟩
abbrev s_is_word : Stmt := topS 3
theorem sc_is_word : FnScope ["thing", "words"] ["thing", "words"] (defScope s_is_word) := ⟨rfl, rfl, rfl, by decide +kernel, rfl, by decide +kernel, by decide +kernel⟩
abbrev s_lane_of : Stmt := topS 16
theorem sc_lane_of : FnScope ["kind", "count", "mark", "size"] ["kind", "count", "mark", "size"] (defScope s_lane_of) := ⟨rfl, rfl, rfl, by decide +kernel, rfl, by decide +kernel, by decide +kernel⟩
abbrev s_count_moved : Stmt := topS 17
theorem sc_count_moved : FnScope ["kind", "before", "after", "size", "low", "high"] ["kind", "before", "after", "size"] (defScope s_count_moved) := ⟨rfl, rfl, rfl, by decide +kernel, rfl, by decide +kernel, by decide +kernel⟩
abbrev s_first_moved : Stmt := topS 18
theorem sc_first_moved : FnScope ["kind", "before", "after", "size", "low", "high"] ["kind", "before", "after", "size"] (defScope s_first_moved) := ⟨rfl, rfl, rfl, by decide +kernel, rfl, by decide +kernel, by decide +kernel⟩
abbrev s_check_kind : Stmt := topS 19
theorem sc_check_kind : FnScope ["kind"] ["kind"] (defScope s_check_kind) := ⟨rfl, rfl, rfl, by decide +kernel, rfl, by decide +kernel, by decide +kernel⟩
abbrev s_check_count : Stmt := topS 20
theorem sc_check_count : FnScope ["count", "greatest"] ["count", "greatest"] (defScope s_check_count) := ⟨rfl, rfl, rfl, by decide +kernel, rfl, by decide +kernel, by decide +kernel⟩
abbrev s_check_size : Stmt := topS 21
theorem sc_check_size : FnScope ["size"] ["size"] (defScope s_check_size) := ⟨rfl, rfl, rfl, by decide +kernel, rfl, by decide +kernel, by decide +kernel⟩
abbrev s_check_moved : Stmt := topS 22
theorem sc_check_moved : FnScope ["kind", "before", "after", "size", "greatest"] ["kind", "before", "after", "size"] (defScope s_check_moved) := ⟨rfl, rfl, rfl, by decide +kernel, rfl, by decide +kernel, by decide +kernel⟩
abbrev s_lane_at : Stmt := topS 23
theorem sc_lane_at : FnScope ["kind", "count", "mark", "size"] ["kind", "count", "mark", "size"] (defScope s_lane_at) := ⟨rfl, rfl, rfl, by decide +kernel, rfl, by decide +kernel, by decide +kernel⟩
abbrev s_kept_by_rest : Stmt := topS 24
theorem sc_kept_by_rest : FnScope ["low", "high", "size", "period"] ["low", "high", "size"] (defScope s_kept_by_rest) := ⟨rfl, rfl, rfl, by decide +kernel, rfl, by decide +kernel, by decide +kernel⟩
abbrev s_lane_start : Stmt := topS 25
theorem sc_lane_start : FnScope ["lane", "count", "size"] ["lane", "count", "size"] (defScope s_lane_start) := ⟨rfl, rfl, rfl, by decide +kernel, rfl, by decide +kernel, by decide +kernel⟩
abbrev s_kept_by_ranges : Stmt := topS 26
theorem sc_kept_by_ranges : FnScope ["low", "high", "size", "kept", "lane"] ["low", "high", "size"] (defScope s_kept_by_ranges) := ⟨rfl, rfl, rfl, by decide +kernel, rfl, by decide +kernel, by decide +kernel⟩
abbrev s_first_moved_by_ranges : Stmt := topS 27
theorem sc_first_moved_by_ranges : FnScope ["low", "high", "size", "lane", "start"] ["low", "high", "size"] (defScope s_first_moved_by_ranges) := ⟨rfl, rfl, rfl, by decide +kernel, rfl, by decide +kernel, by decide +kernel⟩
abbrev s_law_source : Stmt := topS 29
theorem sc_law_source : FnScope ["_law_script"] ["_law_script"] (defScope s_law_source) := ⟨rfl, rfl, rfl, by decide +kernel, rfl, by decide +kernel, by decide +kernel⟩
abbrev s_law_draw : Stmt := topS 30
theorem sc_law_draw : FnScope ["_law_source_here", "_law_limit", "_law_cell", "_law_digit", "_law_mixed"] ["_law_source_here", "_law_limit"] (defScope s_law_draw) := ⟨rfl, rfl, rfl, by decide +kernel, rfl, by decide +kernel, by decide +kernel⟩
abbrev s_law_ask : Stmt := topS 31
theorem sc_law_ask : FnScope ["_law_door", "_law_row"] ["_law_door", "_law_row"] (defScope s_law_ask) := ⟨rfl, rfl, rfl, by decide +kernel, rfl, by decide +kernel, by decide +kernel⟩
abbrev s_law_told : Stmt := topS 32
theorem sc_law_told : FnScope ["_law_door", "_law_row", "_law_told_here"] ["_law_door", "_law_row"] (defScope s_law_told) := ⟨rfl, rfl, rfl, by decide +kernel, rfl, by decide +kernel, by decide +kernel⟩
abbrev s_law_base : Stmt := topS 33
theorem sc_law_base : FnScope ["_law_door", "_law_row", "_law_told_here", "e"] ["_law_door", "_law_row"] (defScope s_law_base) := ⟨rfl, rfl, rfl, by decide +kernel, rfl, by decide +kernel, by decide +kernel⟩
abbrev s_law_counts : Stmt := topS 34
theorem sc_law_counts : FnScope ["_law_source_here", "_law_door", "_law_kind", "_law_good", "_law_wrong"] ["_law_source_here", "_law_door", "_law_kind"] (defScope s_law_counts) := ⟨rfl, rfl, rfl, by decide +kernel, rfl, by decide +kernel, by decide +kernel⟩
abbrev s_law : Stmt := topS 35
theorem sc_law : FnScope ["_law_script", "_law_source_here", "_law_bad", "_law_door", "_law_kind", "_law_size", "_law_wrong_size", "_law_one", "_law_two", "_law_plain", "_law_row", "_law_due"] ["_law_script"] (defScope s_law) := ⟨rfl, rfl, rfl, by decide +kernel, rfl, by decide +kernel, by decide +kernel⟩
structure Txt (K : PySem.W.Frag) (mg : Str → Option Value) where
  a_is_whole : Addr
  d_is_whole : FuncData
  F_is_whole : Fun K "is_whole" "is_whole" s_is_whole a_is_whole d_is_whole
  g_is_whole : mg "is_whole" = some (.ref a_is_whole)
  b_is_whole : Binds K d_is_whole ["thing", "low", "high"] []
  a_is_word : Addr
  d_is_word : FuncData
  F_is_word : Fun K "is_word" "is_word" s_is_word a_is_word d_is_word
  g_is_word : mg "is_word" = some (.ref a_is_word)
  b_is_word : Binds K d_is_word ["thing", "words"] []
  a_lane_of : Addr
  d_lane_of : FuncData
  F_lane_of : Fun K "lane_of" "lane_of" s_lane_of a_lane_of d_lane_of
  g_lane_of : mg "lane_of" = some (.ref a_lane_of)
  b_lane_of : Binds K d_lane_of ["kind", "count", "mark", "size"] []
  a_count_moved : Addr
  d_count_moved : FuncData
  F_count_moved : Fun K "count_moved" "count_moved" s_count_moved a_count_moved d_count_moved
  g_count_moved : mg "count_moved" = some (.ref a_count_moved)
  b_count_moved : Binds K d_count_moved ["kind", "before", "after", "size"] []
  a_first_moved : Addr
  d_first_moved : FuncData
  F_first_moved : Fun K "first_moved" "first_moved" s_first_moved a_first_moved d_first_moved
  g_first_moved : mg "first_moved" = some (.ref a_first_moved)
  b_first_moved : Binds K d_first_moved ["kind", "before", "after", "size"] []
  a_check_kind : Addr
  d_check_kind : FuncData
  F_check_kind : Fun K "check_kind" "check_kind" s_check_kind a_check_kind d_check_kind
  g_check_kind : mg "check_kind" = some (.ref a_check_kind)
  b_check_kind : Binds K d_check_kind ["kind"] []
  a_check_count : Addr
  d_check_count : FuncData
  F_check_count : Fun K "check_count" "check_count" s_check_count a_check_count d_check_count
  g_check_count : mg "check_count" = some (.ref a_check_count)
  b_check_count : Binds K d_check_count ["count", "greatest"] []
  a_check_size : Addr
  d_check_size : FuncData
  F_check_size : Fun K "check_size" "check_size" s_check_size a_check_size d_check_size
  g_check_size : mg "check_size" = some (.ref a_check_size)
  b_check_size : Binds K d_check_size ["size"] []
  a_check_moved : Addr
  d_check_moved : FuncData
  F_check_moved : Fun K "check_moved" "check_moved" s_check_moved a_check_moved d_check_moved
  g_check_moved : mg "check_moved" = some (.ref a_check_moved)
  b_check_moved : Binds K d_check_moved ["kind", "before", "after", "size"] []
  a_lane_at : Addr
  d_lane_at : FuncData
  F_lane_at : Fun K "lane_at" "lane_at" s_lane_at a_lane_at d_lane_at
  g_lane_at : mg "lane_at" = some (.ref a_lane_at)
  b_lane_at : Binds K d_lane_at ["kind", "count", "mark", "size"] []
  a_kept_by_rest : Addr
  d_kept_by_rest : FuncData
  F_kept_by_rest : Fun K "kept_by_rest" "kept_by_rest" s_kept_by_rest a_kept_by_rest d_kept_by_rest
  g_kept_by_rest : mg "kept_by_rest" = some (.ref a_kept_by_rest)
  b_kept_by_rest : Binds K d_kept_by_rest ["low", "high", "size"] []
  a_lane_start : Addr
  d_lane_start : FuncData
  F_lane_start : Fun K "lane_start" "lane_start" s_lane_start a_lane_start d_lane_start
  g_lane_start : mg "lane_start" = some (.ref a_lane_start)
  b_lane_start : Binds K d_lane_start ["lane", "count", "size"] []
  a_kept_by_ranges : Addr
  d_kept_by_ranges : FuncData
  F_kept_by_ranges : Fun K "kept_by_ranges" "kept_by_ranges" s_kept_by_ranges a_kept_by_ranges d_kept_by_ranges
  g_kept_by_ranges : mg "kept_by_ranges" = some (.ref a_kept_by_ranges)
  b_kept_by_ranges : Binds K d_kept_by_ranges ["low", "high", "size"] []
  a_first_moved_by_ranges : Addr
  d_first_moved_by_ranges : FuncData
  F_first_moved_by_ranges : Fun K "first_moved_by_ranges" "first_moved_by_ranges" s_first_moved_by_ranges a_first_moved_by_ranges d_first_moved_by_ranges
  g_first_moved_by_ranges : mg "first_moved_by_ranges" = some (.ref a_first_moved_by_ranges)
  b_first_moved_by_ranges : Binds K d_first_moved_by_ranges ["low", "high", "size"] []
  a_law_source : Addr
  d_law_source : FuncData
  F_law_source : Fun K "_law_source" "_law_source" s_law_source a_law_source d_law_source
  g_law_source : mg "_law_source" = some (.ref a_law_source)
  b_law_source : Binds K d_law_source ["_law_script"] []
  a_law_draw : Addr
  d_law_draw : FuncData
  F_law_draw : Fun K "_law_draw" "_law_draw" s_law_draw a_law_draw d_law_draw
  g_law_draw : mg "_law_draw" = some (.ref a_law_draw)
  b_law_draw : Binds K d_law_draw ["_law_source_here", "_law_limit"] []
  a_law_ask : Addr
  d_law_ask : FuncData
  F_law_ask : Fun K "_law_ask" "_law_ask" s_law_ask a_law_ask d_law_ask
  g_law_ask : mg "_law_ask" = some (.ref a_law_ask)
  b_law_ask : Binds K d_law_ask ["_law_door", "_law_row"] []
  a_law_told : Addr
  d_law_told : FuncData
  F_law_told : Fun K "_law_told" "_law_told" s_law_told a_law_told d_law_told
  g_law_told : mg "_law_told" = some (.ref a_law_told)
  b_law_told : Binds K d_law_told ["_law_door", "_law_row"] []
  a_law_base : Addr
  d_law_base : FuncData
  F_law_base : Fun K "_law_base" "_law_base" s_law_base a_law_base d_law_base
  g_law_base : mg "_law_base" = some (.ref a_law_base)
  b_law_base : Binds K d_law_base ["_law_door", "_law_row"] []
  a_law_counts : Addr
  d_law_counts : FuncData
  F_law_counts : Fun K "_law_counts" "_law_counts" s_law_counts a_law_counts d_law_counts
  g_law_counts : mg "_law_counts" = some (.ref a_law_counts)
  b_law_counts : Binds K d_law_counts ["_law_source_here", "_law_door", "_law_kind"] []
  a_law : Addr
  d_law : FuncData
  F_law : Fun K "law" "law" s_law a_law d_law
  g_law : mg "law" = some (.ref a_law)
  b_law : Binds K d_law ["_law_script"] []
  z_ValueError : mg "ValueError" = none
  z_bool : mg "bool" = none
  z_int : mg "int" = none
  z_isinstance : mg "isinstance" = none
  z_list : mg "list" = none
  z_max : mg "max" = none
  z_min : mg "min" = none
  z_range : mg "range" = none
  z_str : mg "str" = none
  g_lcm : mg "lcm" = some (.builtin "math.lcm")
  c_KINDS : Addr
  g_KINDS : mg "KINDS" = some (.ref c_KINDS)
  r_KINDS : RelV (.ref c_KINDS) (.ref c_KINDS)
  q_KINDS : ∀ H, SqT K H c_KINDS [.str "rest", .str "ranges"]
  u_GREATEST_COUNT : Value
  g_GREATEST_COUNT : mg "GREATEST_COUNT" = some u_GREATEST_COUNT
  r_GREATEST_COUNT : RelV (.int 100000000000000000000) u_GREATEST_COUNT
  u_GREATEST_MOVED_BY_RANGES : Value
  g_GREATEST_MOVED_BY_RANGES : mg "GREATEST_MOVED_BY_RANGES" = some u_GREATEST_MOVED_BY_RANGES
  r_GREATEST_MOVED_BY_RANGES : RelV (.int 1000) u_GREATEST_MOVED_BY_RANGES
  u_GREATEST_MARK : Value
  g_GREATEST_MARK : mg "GREATEST_MARK" = some u_GREATEST_MARK
  r_GREATEST_MARK : RelV (.int 10000000000000000000000000000000000000000) u_GREATEST_MARK
  u_GREATEST_SIZE : Value
  g_GREATEST_SIZE : mg "GREATEST_SIZE" = some u_GREATEST_SIZE
  r_GREATEST_SIZE : RelV (.int 10000000000000000000000000000000000000000) u_GREATEST_SIZE
  C_LaneError : Addr
  g_LaneError : mg "LaneError" = some (.ref C_LaneError)
  x_LaneError : PySem.W.excIn K C_LaneError [.type "ValueError", .type "Exception", .type "BaseException", .type "object"] "ValueError.__new__" = true
  k_LaneError : PySem.W.keepIn K (.ref C_LaneError) = true
  p_LaneError : PySem.W.subIn K (.ref C_LaneError) (.type "BaseException") = some true
  t_LaneError : PySem.W.typeIn K (.ref C_LaneError) = some (.type "type")
  i_LaneError : PySem.W.isClsIn K C_LaneError = true
  C_BadKind : Addr
  g_BadKind : mg "BadKind" = some (.ref C_BadKind)
  x_BadKind : PySem.W.excIn K C_BadKind [.type "ValueError", .type "Exception", .type "BaseException", .type "object"] "ValueError.__new__" = true
  k_BadKind : PySem.W.keepIn K (.ref C_BadKind) = true
  p_BadKind : PySem.W.subIn K (.ref C_BadKind) (.type "BaseException") = some true
  t_BadKind : PySem.W.typeIn K (.ref C_BadKind) = some (.type "type")
  i_BadKind : PySem.W.isClsIn K C_BadKind = true
  C_BadCount : Addr
  g_BadCount : mg "BadCount" = some (.ref C_BadCount)
  x_BadCount : PySem.W.excIn K C_BadCount [.type "ValueError", .type "Exception", .type "BaseException", .type "object"] "ValueError.__new__" = true
  k_BadCount : PySem.W.keepIn K (.ref C_BadCount) = true
  p_BadCount : PySem.W.subIn K (.ref C_BadCount) (.type "BaseException") = some true
  t_BadCount : PySem.W.typeIn K (.ref C_BadCount) = some (.type "type")
  i_BadCount : PySem.W.isClsIn K C_BadCount = true
  C_BadMark : Addr
  g_BadMark : mg "BadMark" = some (.ref C_BadMark)
  x_BadMark : PySem.W.excIn K C_BadMark [.type "ValueError", .type "Exception", .type "BaseException", .type "object"] "ValueError.__new__" = true
  k_BadMark : PySem.W.keepIn K (.ref C_BadMark) = true
  p_BadMark : PySem.W.subIn K (.ref C_BadMark) (.type "BaseException") = some true
  t_BadMark : PySem.W.typeIn K (.ref C_BadMark) = some (.type "type")
  i_BadMark : PySem.W.isClsIn K C_BadMark = true
  C_BadSize : Addr
  g_BadSize : mg "BadSize" = some (.ref C_BadSize)
  x_BadSize : PySem.W.excIn K C_BadSize [.type "ValueError", .type "Exception", .type "BaseException", .type "object"] "ValueError.__new__" = true
  k_BadSize : PySem.W.keepIn K (.ref C_BadSize) = true
  p_BadSize : PySem.W.subIn K (.ref C_BadSize) (.type "BaseException") = some true
  t_BadSize : PySem.W.typeIn K (.ref C_BadSize) = some (.type "type")
  i_BadSize : PySem.W.isClsIn K C_BadSize = true
  q_BadKind_BadKind : PySem.W.subIn K (.ref C_BadKind) (.ref C_BadKind) = some true
  q_BadKind_BadCount : PySem.W.subIn K (.ref C_BadKind) (.ref C_BadCount) = some false
  q_BadKind_BadMark : PySem.W.subIn K (.ref C_BadKind) (.ref C_BadMark) = some false
  q_BadKind_BadSize : PySem.W.subIn K (.ref C_BadKind) (.ref C_BadSize) = some false
  q_BadKind_LaneError : PySem.W.subIn K (.ref C_BadKind) (.ref C_LaneError) = some true
  q_BadCount_BadKind : PySem.W.subIn K (.ref C_BadCount) (.ref C_BadKind) = some false
  q_BadCount_BadCount : PySem.W.subIn K (.ref C_BadCount) (.ref C_BadCount) = some true
  q_BadCount_BadMark : PySem.W.subIn K (.ref C_BadCount) (.ref C_BadMark) = some false
  q_BadCount_BadSize : PySem.W.subIn K (.ref C_BadCount) (.ref C_BadSize) = some false
  q_BadCount_LaneError : PySem.W.subIn K (.ref C_BadCount) (.ref C_LaneError) = some true
  q_BadMark_BadKind : PySem.W.subIn K (.ref C_BadMark) (.ref C_BadKind) = some false
  q_BadMark_BadCount : PySem.W.subIn K (.ref C_BadMark) (.ref C_BadCount) = some false
  q_BadMark_BadMark : PySem.W.subIn K (.ref C_BadMark) (.ref C_BadMark) = some true
  q_BadMark_BadSize : PySem.W.subIn K (.ref C_BadMark) (.ref C_BadSize) = some false
  q_BadMark_LaneError : PySem.W.subIn K (.ref C_BadMark) (.ref C_LaneError) = some true
  q_BadSize_BadKind : PySem.W.subIn K (.ref C_BadSize) (.ref C_BadKind) = some false
  q_BadSize_BadCount : PySem.W.subIn K (.ref C_BadSize) (.ref C_BadCount) = some false
  q_BadSize_BadMark : PySem.W.subIn K (.ref C_BadSize) (.ref C_BadMark) = some false
  q_BadSize_BadSize : PySem.W.subIn K (.ref C_BadSize) (.ref C_BadSize) = some true
  q_BadSize_LaneError : PySem.W.subIn K (.ref C_BadSize) (.ref C_LaneError) = some true
  e_BadKind : ExcC K C_BadKind
  v_BadKind : PySem.W.subIn K (.ref C_BadKind) (.type "ValueError") = some true
  e_BadCount : ExcC K C_BadCount
  v_BadCount : PySem.W.subIn K (.ref C_BadCount) (.type "ValueError") = some true
  e_BadMark : ExcC K C_BadMark
  v_BadMark : PySem.W.subIn K (.ref C_BadMark) (.type "ValueError") = some true
  e_BadSize : ExcC K C_BadSize
  v_BadSize : PySem.W.subIn K (.ref C_BadSize) (.type "ValueError") = some true
def Txt.exc {K : PySem.W.Frag} {mg : Str → Option Value} (T : Txt K mg) (n : String) : Addr := if n = "LaneError" then T.C_LaneError else if n = "BadKind" then T.C_BadKind else if n = "BadCount" then T.C_BadCount else if n = "BadMark" then T.C_BadMark else if n = "BadSize" then T.C_BadSize else 0
section
variable {P : Program} {w : World} {K : PySem.W.Frag} {mg : Str → Option Value} {base : Heap}
theorem ok_law_source (T : Txt K mg) : FnOk P w K mg base CX0 1 T.a_law_source T.d_law_source ["_law_script"] (spSource K) := by
  refine T.F_law_source.ok sc_law_source (fun vs H Q E h => ?_) (fun cdv A outer s H vs Q E hr h => ?_)
  · obtain ⟨a, ns, rfl, _⟩ := h
    rfl
  · obtain ⟨a, ns, rfl, hS, hlen, hb, q⟩ := h
    refine ⟨_, (pss_one (ps_ret (pe_lst (pa_cons (pe_callTy call_list_of (by rfl) T.z_list (by decide +kernel) (pa_cons (pv 0) pa_nil)) (pa_cons pe_int (pa_cons pe_int (pa_cons pe_int pa_nil))))))), ?_⟩
    refine ⟨.ref a, rfl, a, _, rfl, .inl hS, fun l hl => ⟨(by show 4 ≤ sizeLine; decide), fun p hp => ?_⟩⟩
    have hpl : l ≠ p := ne_of_none upd_same hp
    have hp0 : H p = none := by rw [← upd_ne (H := H) (o := .lst (ns.map V.int)) hpl.symm]; exact hp
    refine q p _ hp0 ⟨l, ns, 0, 1, 0, upd_same, (by rw [upd_ne hpl]; exact upd_same), fun k hk => bits_log (hb k hk), hlen, by decide, by decide, by decide, by decide, by decide, by decide⟩ ((same_upd hl).trans (same_upd hp))
theorem ok_law_draw (T : Txt K mg) : FnOk P w K mg base CX0 1 T.a_law_draw T.d_law_draw ["_law_source_here", "_law_limit"] spDraw := by
  refine T.F_law_draw.ok sc_law_draw (fun vs H Q E h => ?_) (fun cdv A outer s H vs Q E hr h => ?_)
  · obtain ⟨a, n, lim, rfl, _⟩ := h
    rfl
  · obtain ⟨a, n, lim, rfl, S, hn, l1, l2, q⟩ := h
    refine ⟨_, (pss_cons (ps_if (PW.pt (pw_and (pt_cmpR op_lt (pe_ix ix_list (pv 0) pe_int (fun _ _ => rfl)) (pv 1) (nomark _)) (pw_and1 (pt_truth (pe_ix ix_list (pv 0) pe_int (fun _ _ => rfl)) (by intro _; rfl)))))
      (pss_cons (ps_set (i := 2) sc_law_draw.nd rfl (Or.inl rfl) (pe_ix ix_list (pe_ix ix_list (pv 0) pe_int (fun _ _ => rfl)) pe_int (fun _ _ => rfl)))
      (pss_cons (ps_asg (pe_slice sl_list (pe_ix ix_list (pv 0) pe_int (fun _ _ => rfl)) (po_some pe_int) po_none) (pg_sub (pv 0) pe_int set_list))
      (pss_one (ps_if (pt_cmpR op_ge (pv 2) (pe_op op_pow pe_int pe_int) (nomark _))
      (pss_one (ps_asg (pv 2) (pg_sub (pv 0) pe_int set_list)))
      (pss_one (ps_asg (pe_op op_mod (pe_callTy call_int1 (by rfl) T.z_int (by decide +kernel) (pa_cons (pe_op op_add (pe_op op_add (pe_op Lc.op_mulX (pe_ix ix_list (pv 0) pe_int (fun _ _ => rfl)) pe_int) (pe_op Lc.op_mulX (pv 2) pe_int)) pe_int) pa_nil)) pe_int) (pg_sub (pv 0) pe_int set_list)))))))
      pss_nil)
      (pss_cons (ps_if (pt_cmpR op_ge (pe_ix ix_list (pv 0) pe_int (fun _ _ => rfl)) (pv 1) (nomark _))
      (pss_cons (ps_set (i := 3) sc_law_draw.nd rfl (Or.inl rfl) (pe_op op_mod (pe_callTy call_int1 (by rfl) T.z_int (by decide +kernel) (pa_cons (pe_ix ix_list (pv 0) pe_int (fun _ _ => rfl)) pa_nil)) (pv 1)))
      (pss_cons (ps_asg (pe_op op_fdivW (pe_ix ix_list (pv 0) pe_int (fun _ _ => rfl)) (pv 1)) (pg_sub (pv 0) pe_int set_list))
      (pss_one (ps_ret (pv 3)))))
      pss_nil)
      (pss_cons (ps_asg (pe_op op_add (pe_ix ix_list (pv 0) pe_int (fun _ _ => rfl)) pe_int) (pg_sub (pv 0) pe_int set_list))
      (pss_cons (ps_set (i := 4) sc_law_draw.nd rfl (Or.inl rfl) (pe_op op_mod (pe_callTy call_int1 (by rfl) T.z_int (by decide +kernel) (pa_cons (pe_op op_add (pe_ix ix_list (pv 0) pe_int (fun _ _ => rfl)) (pe_op Lc.op_mulX (pe_ix ix_list (pv 0) pe_int (fun _ _ => rfl)) pe_int)) pa_nil)) pe_int))
      (pss_one (ps_ret (pe_op op_mod (pe_op op_mod (pe_callTy call_int1 (by rfl) T.z_int (by decide +kernel) (pa_cons (pe_op op_add (pe_op op_add (pe_op Lc.op_mulX (pv 4) (pv 4)) (pe_op Lc.op_mulX (pe_ix ix_list (pv 0) pe_int (fun _ _ => rfl)) pe_int)) (pe_ix ix_list (pv 0) pe_int (fun _ _ => rfl))) pa_nil)) pe_int) (pv 1)))))))), ?_⟩
    refine seq_cut (fun σ' H' => ∃ c, σ' = [some (.ref a), some (.int lim), c, none, none] ∧ Src H' a n ∧ But a H H') ?_ (fun K1 => ?_)
    · rintro σ' H' ⟨c, rfl, S', B'⟩
      obtain ⟨l, ns, x, y, z, ha, hl, hb, hlen, x0, xb, y0, y1, z0, z1⟩ := S'.ex
      have nla : l ≠ a := fun e => by
        subst e; rw [ha] at hl
        have e2 := HO.lst.inj (Option.some.inj hl)
        cases ns with
        | nil => exact nomatch e2
        | cons k r => exact nomatch (List.cons.inj e2).1
      refine ⟨.ref a, rfl, a, _, 1, .int x, rfl, rfl, SqL.of ha, atI_nat (j := 1) rfl, .int lim, rfl, x, lim, rfl, rfl, _, rfl, ite2 (fun e => ?_) (fun e => ?_)⟩
      · have e1 : lim ≤ x := of_decide_eq_true e
        refine ⟨.ref a, rfl, a, _, 1, .int x, rfl, rfl, SqL.of ha, atI_nat (j := 1) rfl, .inl ⟨x, rfl, .int lim, rfl, x, lim, rfl, rfl, (by show 0 < lim; omega), ?_⟩⟩
        refine ⟨.ref a, rfl, a, _, 1, .int x, rfl, rfl, SqL.of ha, atI_nat (j := 1) rfl, .int lim, rfl, x, lim, rfl, rfl, divX (by omega) (Nat.lt_of_lt_of_le (by omega : lim.natAbs < 2 ^ 64) (Nat.pow_le_pow_right (by decide) (by decide))), .ref a, rfl, a, _, 1, 1, rfl, rfl, ha, rfl, ?_⟩
        refine ⟨.int (x % lim), rfl, q _ _ (Int.emod_nonneg x (by omega)) (Int.emod_lt_of_pos x (by omega)) ?_ B'.upd⟩
        exact ⟨l, ns, x / lim, y, z, upd_same, (by rw [upd_ne nla]; exact hl), hb, hlen, Int.ediv_nonneg x0 (by omega), idiv_log x0 l1 xb, y0, y1, z0, by omega⟩
      · refine ⟨.ref a, rfl, a, _, 3, .int z, rfl, rfl, SqL.of ha, atI_nat (j := 3) rfl, z, 1, rfl, rfl, .ref a, rfl, a, _, 3, 3, rfl, rfl, ha, rfl, ?_⟩
        have ha2 : (upd H' a (.lst [.ref l, .int x, .int y, .int (z + 1)])) a = some (.lst [.ref l, .int x, .int y, .int (z + 1)]) := upd_same
        have fz : Few (z + 1) := few_le (b := 1000000) (by omega) (by omega) (by decide)
        refine ⟨.ref a, rfl, a, _, 2, .int y, rfl, rfl, SqL.of ha2, atI_nat (j := 2) rfl, .ref a, rfl, a, _, 3, .int (z + 1), rfl, rfl, SqL.of ha2, atI_nat (j := 3) rfl, z + 1, 40692, rfl, rfl, mulX fz (few_le (b := 40692) (by decide) (by decide) (by decide)), y, _, rfl, rfl, .inl ⟨_, rfl, _, _, rfl, rfl, (by show (0 : Int) < 2147483399; decide), ?_⟩⟩
        have m0 : 0 ≤ (y + (z + 1) * 40692) % 2147483399 := Int.emod_nonneg _ (by decide)
        have m1 : (y + (z + 1) * 40692) % 2147483399 < 2147483399 := Int.emod_lt_of_pos _ (by decide)
        have fm := few_le (b := 2147483399) m0 (Int.le_of_lt m1) (by decide)
        refine ⟨_, rfl, _, rfl, _, _, rfl, rfl, mulX fm fm, .ref a, rfl, a, _, 3, .int (z + 1), rfl, rfl, SqL.of ha2, atI_nat (j := 3) rfl, z + 1, 3791, rfl, rfl, mulX fz (few_le (b := 3791) (by decide) (by decide) (by decide)), _, _, rfl, rfl, .ref a, rfl, a, _, 2, .int y, rfl, rfl, SqL.of ha2, atI_nat (j := 2) rfl, _, y, rfl, rfl, .inl ⟨_, rfl, _, _, rfl, rfl, (by show (0 : Int) < 2147483647; decide), .int lim, rfl, _, lim, rfl, rfl, (by show 0 < lim; omega), ?_⟩⟩
        refine q _ _ (Int.emod_nonneg _ (by omega)) (Int.emod_lt_of_pos _ (by omega)) ?_ B'.upd
        exact ⟨l, ns, x, y, z + 1, upd_same, (by rw [upd_ne nla]; exact hl), hb, hlen, x0, xb, y0, y1, by omega, by omega⟩
    · obtain ⟨l, ns, x, y, z, ha, hl, hb, hlen, x0, xb, y0, y1, z0, z1⟩ := S.ex
      refine ⟨.ref a, rfl, a, _, 1, .int x, rfl, rfl, SqL.of ha, atI_nat (j := 1) rfl, .int lim, rfl, x, lim, rfl, rfl, _, rfl, ite2 (fun e => ?_) (fun e => ?_)⟩
      · refine ⟨.ref a, rfl, a, _, 0, .ref l, rfl, rfl, SqL.of ha, atI_nat (j := 0) rfl, _, .inl ⟨_, SqL.of hl, rfl⟩, ?_⟩
        cases ns with
        | nil => exact iteF (K1 _ _ ⟨none, rfl, S, But.refl _ _⟩)
        | cons k r =>
          refine iteT ?_
          refine ⟨.ref a, rfl, a, _, 0, .ref l, rfl, rfl, SqL.of ha, atI_nat (j := 0) rfl, l, _, 0, .int k, rfl, rfl, SqL.of hl, atI_nat (j := 0) rfl, ?_⟩
          refine ⟨.ref a, rfl, a, _, 0, .ref l, rfl, rfl, SqL.of ha, atI_nat (j := 0) rfl, 1, rfl, l, _, rfl, SqL.of hl, fun p hp => ?_⟩
          have npa : a ≠ p := ne_of_none ha hp
          have ha1 : (upd H p (.lst (cutV ((k :: r).map V.int) (some 1) none))) a = some (.lst [.ref l, .int x, .int y, .int z]) := by
            rw [upd_ne npa]; exact ha
          refine ⟨.ref a, rfl, a, _, 0, 0, rfl, rfl, ha1, rfl, ?_⟩
          have ec : cutV ((k :: r).map V.int) (some 1) none = r.map V.int := by rw [cut1]; rfl
          rw [ec]
          have ha2 : (upd (upd H p (.lst (r.map V.int))) a (.lst [.ref p, .int x, .int y, .int z])) a = some (.lst [.ref p, .int x, .int y, .int z]) := upd_same
          have hp2 : (upd (upd H p (.lst (r.map V.int))) a (.lst [.ref p, .int x, .int y, .int z])) p = some (.lst (r.map V.int)) := by
            rw [upd_ne npa.symm]; exact upd_same
          have B2 : But a H (upd (upd H p (.lst (r.map V.int))) a (.lst [.ref p, .int x, .int y, .int z])) := (Same.but (same_upd hp)).upd
          have hk : k.natAbs.log2 ≤ 1048576 := hb k List.mem_cons_self
          have hr' : ∀ j ∈ r, j.natAbs.log2 ≤ 1048576 := fun j hj => hb j (List.mem_cons_of_mem _ hj)
          have hlr : r.length ≤ 63 := by rw [List.length_cons] at hlen; omega
          refine ⟨.int k, rfl, 10, 18, rfl, rfl, ⟨by decide, by decide, by decide⟩, k, _, rfl, rfl, _, rfl, ite2 (fun e => ?_) (fun e => ?_)⟩
          · have e1 : (10 : Int) ^ 18 ≤ k := of_decide_eq_true e
            refine ⟨.int k, rfl, .ref a, rfl, a, _, 1, 1, rfl, rfl, ha2, rfl, ?_⟩
            refine K1 _ _ ⟨some (.int k), rfl, ⟨p, r, k, y, z, upd_same, ?_, hr', hlr, by omega, hk, y0, y1, z0, z1⟩, B2.upd⟩
            rw [upd_ne npa.symm]; exact hp2
          · refine ⟨.ref a, rfl, a, _, 2, .int y, rfl, rfl, SqL.of ha2, atI_nat (j := 2) rfl, y, 48271, rfl, rfl, mulX (few_le (b := 2147483647) y0 (by omega) (by decide)) (few_le (b := 48271) (by decide) (by decide) (by decide)), .int k, rfl, k, 69621, rfl, rfl, mulX (few_bits hk) (few_le (b := 69621) (by decide) (by decide) (by decide)), _, _, rfl, rfl, _, 7, rfl, rfl, .inl ⟨_, rfl, _, _, rfl, rfl, (by show (0 : Int) < 2147483647; decide), .ref a, rfl, a, _, 2, 2, rfl, rfl, ha2, rfl, ?_⟩⟩
            refine K1 _ _ ⟨some (.int k), rfl, ⟨p, r, x, _, z, upd_same, ?_, hr', hlr, x0, xb, Int.emod_nonneg _ (by decide), Int.emod_lt_of_pos _ (by decide), z0, z1⟩, B2.upd⟩
            rw [upd_ne npa.symm]; exact hp2
      · exact iteF (K1 _ _ ⟨none, rfl, S, But.refl _ _⟩)
end

section
variable {P : Program} {w : World} {K : PySem.W.Frag} {mg : Str → Option Value} {base : Heap}
theorem ok_is_whole (T : Txt K mg) : FnOk P w K mg base CX0 1 T.a_is_whole T.d_is_whole ["thing", "low", "high"] (spWhole K) := by
  refine T.F_is_whole.ok sc_is_whole (fun vs H Q E h => ?_) (fun cdv A outer s H vs Q E hr h => ?_)
  · obtain ⟨x, lo, hi, n, rfl, _⟩ := h
    rfl
  · obtain ⟨x, lo, hi, n, rfl, hx, q⟩ := h
    refine ⟨_, (pss_one (ps_ret (pe_and (pe_callB call_isi (by rfl) T.z_isinstance (by decide +kernel) (pa_cons (pv 0) (pa_cons (pe_bltn (v := .ty "int") (by rfl) T.z_int (by decide +kernel) rfl) pa_nil))) (pe_and (pe_not (pe_callB call_isi (by rfl) T.z_isinstance (by decide +kernel) (pa_cons (pv 0) (pa_cons (pe_bltn (v := .ty "bool") (by rfl) T.z_bool (by decide +kernel) rfl) pa_nil)))) (pe_one (pe_chain op_le op_le (pv 1) (pv 0) (pv 2))))))), ?_⟩
    refine ⟨x, rfl, x, _, _, _, _, rfl, .ty _, hx.ty, hx.int?, _, rfl, ?_⟩
    cases x with
    | int i =>
      refine iteT ⟨_, rfl, _, _, _, _, _, rfl, .ty _, hx.ty, hx.bool?, _, rfl, _, rfl, iteT ?_⟩
      refine ⟨_, rfl, _, rfl, lo, i, rfl, rfl, _, rfl, ite2 (fun e => ?_) (fun e => ?_)⟩
      · refine ⟨_, rfl, i, hi, rfl, rfl, ?_⟩
        have e2 : wholeV (.int i) lo hi = decide (i ≤ hi) := by
          show (decide (lo ≤ i) && decide (i ≤ hi)) = _
          rw [e, Bool.true_and]
        rw [e2] at q
        exact q
      · have e2 : wholeV (.int i) lo hi = false := by
          show (decide (lo ≤ i) && decide (i ≤ hi)) = _
          rw [Bool.eq_false_iff.mpr e, Bool.false_and]
        rw [e2] at q
        exact q
    | bl b => exact iteT ⟨_, rfl, _, _, _, _, _, rfl, .ty _, hx.ty, hx.bool?, _, rfl, _, rfl, iteF q⟩
    | non => exact iteF q
    | str z => exact iteF q
    | byt z => cases hx
    | flt z => cases hx
    | ref z => exact iteF q
    | ty z => cases hx
theorem ok_is_word (T : Txt K mg) : FnOk P w K mg base CX0 1 T.a_is_word T.d_is_word ["thing", "words"] (spWord K) := by
  refine T.F_is_word.ok sc_is_word (fun vs H Q E h => ?_) (fun cdv A outer s H vs Q E hr h => ?_)
  · obtain ⟨x, t, ws, n, rfl, _⟩ := h
    rfl
  · obtain ⟨x, t, ws, n, rfl, ht, hx, q⟩ := h
    refine ⟨_, (pss_one (ps_ret (pe_and (pe_callB call_isi (by rfl) T.z_isinstance (by decide +kernel) (pa_cons (pv 0) (pa_cons (pe_bltn (v := .ty "str") (by rfl) T.z_str (by decide +kernel) rfl) pa_nil))) (pe_one (pe_cmpR op_in_seq (pv 0) (pv 1) rfl))))), ?_⟩
    refine ⟨x, rfl, x, _, _, _, _, rfl, .ty _, hx.ty, hx.str?, _, rfl, ?_⟩
    cases x with
    | str z =>
      refine iteT ⟨_, rfl, _, rfl, t, _, rfl, .inr ht, rfl, all_flat_str ws, ?_⟩
      rw [show (if false = true then !inV (V.str z) (ws.map V.str) else inV (V.str z) (ws.map V.str)) = decide (z ∈ ws) from inV_str z ws]
      exact q
    | int i => exact iteF q
    | bl b => exact iteF q
    | non => exact iteF q
    | byt z => cases hx
    | flt z => cases hx
    | ref z => exact iteF q
    | ty z => cases hx
end

section
variable {P : Program} {w : World} {K : PySem.W.Frag} {mg : Str → Option Value} {base : Heap}
theorem ok_check_kind (T : Txt K mg) : FnOk P w K mg base (L2.CX P w) 2 T.a_check_kind T.d_check_kind ["kind"] (spChk K T.exc kindV "BadKind") := by
  refine T.F_check_kind.okX sc_check_kind (fun vs H Q E h => ?_) (fun cdv A outer s H vs Q E hr h => ?_)
  · obtain ⟨x, n, rfl, _⟩ := h
    rfl
  · obtain ⟨x, n, rfl, hx, q⟩ := h
    refine ⟨_, (pss_one (ps_if (pt_not (pt_val (pe_call (ok_is_word T) (hr.mono (by decide)) rfl T.g_is_word T.F_is_word.kp T.b_is_word .nil pass0 (pa_cons (pv 0) (pa_cons (pe_glob rfl T.g_KINDS T.r_KINDS) pa_nil)))))
      (pss_one (ps_raise rfl (takes_of rfl rfl rfl rfl) (pmk_own PySem.F.excBase_ValueError T.x_BadKind T.g_BadKind T.k_BadKind (raises_own T.p_BadKind T.t_BadKind) rfl)))
      pss_nil)), ?_⟩
    refine ⟨x, rfl, x, T.c_KINDS, ["rest", "ranges"], n, rfl, T.q_KINDS H, hx, _, rfl, ?_⟩
    cases e : kindV x with
    | false =>
      rw [e] at q
      exact if_pos (show (!kindV x) = true by rw [e]; rfl) ▸ q
    | true =>
      rw [e] at q
      exact if_neg (show ¬ (!kindV x) = true by rw [e]; decide) ▸ q
theorem ok_check_size (T : Txt K mg) : FnOk P w K mg base (L2.CX P w) 2 T.a_check_size T.d_check_size ["size"] (spChk K T.exc (fun x => wholeV x 1 (10 ^ 40)) "BadSize") := by
  refine T.F_check_size.okX sc_check_size (fun vs H Q E h => ?_) (fun cdv A outer s H vs Q E hr h => ?_)
  · obtain ⟨x, n, rfl, _⟩ := h
    rfl
  · obtain ⟨x, n, rfl, hx, q⟩ := h
    refine ⟨_, (pss_one (ps_if (pt_not (pt_val (pe_call (ok_is_whole T) (hr.mono (by decide)) rfl T.g_is_whole T.F_is_whole.kp T.b_is_whole .nil pass0 (pa_cons (pv 0) (pa_cons pe_int (pa_cons (pe_glob rfl T.g_GREATEST_SIZE T.r_GREATEST_SIZE) pa_nil))))))
      (pss_one (ps_raise rfl (takes_of rfl rfl rfl rfl) (pmk_own PySem.F.excBase_ValueError T.x_BadSize T.g_BadSize T.k_BadSize (raises_own T.p_BadSize T.t_BadSize) rfl)))
      pss_nil)), ?_⟩
    refine ⟨x, rfl, x, 1, 10 ^ 40, n, rfl, hx, _, rfl, ?_⟩
    cases e : wholeV x 1 (10 ^ 40) with
    | false =>
      simp only [e] at q
      exact q
    | true =>
      simp only [e] at q
      exact q
theorem ok_check_count (T : Txt K mg) : FnOk P w K mg base (L2.CX P w) 2 T.a_check_count T.d_check_count ["count", "greatest"] (spChkC K T.exc) := by
  refine T.F_check_count.okX sc_check_count (fun vs H Q E h => ?_) (fun cdv A outer s H vs Q E hr h => ?_)
  · obtain ⟨x, g, n, rfl, _⟩ := h
    rfl
  · obtain ⟨x, g, n, rfl, hg, hx, q⟩ := h
    refine ⟨_, (pss_one (ps_if (pt_not (pt_val (pe_call (ok_is_whole T) (hr.mono (by decide)) rfl T.g_is_whole T.F_is_whole.kp T.b_is_whole .nil pass0 (pa_cons (pv 0) (pa_cons pe_int (pa_cons (pv 1) pa_nil))))))
      (pss_one (ps_raise rfl (takes_of rfl rfl rfl rfl) (pmk_ownA PySem.F.excBase_ValueError T.x_BadCount T.g_BadCount T.k_BadCount (raises_own T.p_BadCount T.t_BadCount) rfl (pa_cons (pe_joined (.cons pe_str (.cons (pe_fmt (pv 1)) (.cons pe_str .nil)))) pa_nil))))
      pss_nil)), ?_⟩
    refine ⟨x, rfl, .int g, rfl, x, 1, g, n, rfl, hx, _, rfl, ?_⟩
    cases e : wholeV x 1 g with
    | false =>
      simp only [e] at q
      refine iteT ?_
      rcases hg with rfl | rfl
      · exact ⟨_, rfl, by decide +kernel, .int _, rfl, .inr ⟨_, rfl, by decide +kernel, _, rfl, by decide +kernel, _, rfl, by decide +kernel, by decide +kernel, q⟩⟩
      · exact ⟨_, rfl, by decide +kernel, .int _, rfl, .inr ⟨_, rfl, by decide +kernel, _, rfl, by decide +kernel, _, rfl, by decide +kernel, by decide +kernel, q⟩⟩
    | true =>
      simp only [e] at q
      exact iteF q
theorem ok_lane_at (T : Txt K mg) : FnOk P w K mg base CX0 1 T.a_lane_at T.d_lane_at ["kind", "count", "mark", "size"] spLaneAt := by
  refine T.F_lane_at.ok sc_lane_at (fun vs H Q E h => ?_) (fun cdv A outer s H vs Q E hr h => ?_)
  · obtain ⟨k, c, m, s, rfl, _⟩ := h
    rfl
  · obtain ⟨k, c, m, s, rfl, c1, c2, m0, ms, s1, q⟩ := h
    refine ⟨_, (pss_one (ps_ret (pe_ifExp (pt_cmpR op_eq (pv 0) pe_str (nomark _)) (pe_op op_mod (pv 2) (pv 1)) (pe_op op_fdivW (pe_op Lc.op_mulX (pv 2) (pv 1)) (pv 3))))), ?_⟩
    refine ⟨_, rfl, rfl, _, rfl, ite2 (fun e => ?_) (fun e => ?_)⟩
    · have e2 : V.str k = .str "rest" := of_decide_eq_true e
      refine ⟨_, rfl, _, rfl, _, _, rfl, rfl, (by show 0 < c; omega), ?_⟩
      unfold laneAt at q
      rw [if_pos e2] at q
      exact q
    · have e2 : ¬ V.str k = .str "rest" := fun z => e (decide_eq_true z)
      have fm : Few m := few_le (b := 10 ^ 40) m0 (by omega) (by decide)
      have fc : Few c := few_le (b := 10 ^ 20) (by omega) c2 (by decide)
      have hs : s.natAbs < 2 ^ 240 := Nat.lt_of_le_of_lt (by omega : s.natAbs ≤ 10 ^ 40) (by decide)
      refine ⟨_, rfl, _, rfl, _, _, rfl, rfl, mulX fm fc, _, rfl, _, _, rfl, rfl, divX (by omega) hs, ?_⟩
      unfold laneAt at q
      rw [if_neg e2] at q
      exact q
theorem ok_lane_of (T : Txt K mg) : FnOk P w K mg base (L2.CX P w) 3 T.a_lane_of T.d_lane_of ["kind", "count", "mark", "size"] (spLaneOf K T.exc) := by
  refine T.F_lane_of.okX sc_lane_of (fun vs H Q E h => ?_) (fun cdv A outer s₀ H vs Q E hr h => ?_)
  · obtain ⟨k, c, m, s, _, _, _, _, rfl, _⟩ := h
    rfl
  · obtain ⟨k, c, m, s, tk, tc, tm, ts, rfl, hk, hc, hm, hs, q⟩ := h
    refine ⟨_, (pss_cons (ps_expr (pe_call (ok_check_kind T) (hr.mono (by decide)) rfl T.g_check_kind T.F_check_kind.kp T.b_check_kind .nil (passes_call (takes_of rfl rfl rfl rfl) (fun _ _ _ _ h => h)) (pa_cons (pv 0) pa_nil)))
      (pss_cons (ps_expr (pe_call (ok_check_count T) (hr.mono (by decide)) rfl T.g_check_count T.F_check_count.kp T.b_check_count .nil (passes_call (takes_of rfl rfl rfl rfl) (fun _ _ _ _ h => h)) (pa_cons (pv 1) (pa_cons (pe_glob rfl T.g_GREATEST_COUNT T.r_GREATEST_COUNT) pa_nil))))
      (pss_cons (ps_if (pt_not (pt_val (pe_call (ok_is_whole T) (hr.mono (by decide)) rfl T.g_is_whole T.F_is_whole.kp T.b_is_whole .nil pass0 (pa_cons (pv 2) (pa_cons pe_int (pa_cons (pe_glob rfl T.g_GREATEST_MARK T.r_GREATEST_MARK) pa_nil))))))
      (pss_one (ps_raise rfl (takes_of rfl rfl rfl rfl) (pmk_own PySem.F.excBase_ValueError T.x_BadMark T.g_BadMark T.k_BadMark (raises_own T.p_BadMark T.t_BadMark) rfl)))
      pss_nil)
      (pss_cons (ps_expr (pe_call (ok_check_size T) (hr.mono (by decide)) rfl T.g_check_size T.F_check_size.kp T.b_check_size .nil (passes_call (takes_of rfl rfl rfl rfl) (fun _ _ _ _ h => h)) (pa_cons (pv 3) pa_nil)))
      (pss_cons (ps_if (pt_cmpR op_ge (pv 2) (pv 3) (nomark _))
      (pss_one (ps_raise rfl (takes_of rfl rfl rfl rfl) (pmk_own PySem.F.excBase_ValueError T.x_BadMark T.g_BadMark T.k_BadMark (raises_own T.p_BadMark T.t_BadMark) rfl)))
      pss_nil)
      (pss_one (ps_ret (pe_call (ok_lane_at T) (hr.mono (by decide)) rfl T.g_lane_at T.F_lane_at.kp T.b_lane_at .nil pass0 (pa_cons (pv 0) (pa_cons (pv 1) (pa_cons (pv 2) (pa_cons (pv 3) pa_nil)))))))))))), ?_⟩
    unfold laneOf at q
    refine ⟨k, rfl, k, tk, rfl, hk, ?_⟩
    cases e1 : kindV k with
    | false => rw [if_pos e1] at q; exact q
    | true =>
    rw [if_neg (by rw [e1]; decide)] at q
    refine ⟨c, rfl, c, 10 ^ 20, tc, rfl, .inl rfl, hc, ?_⟩
    cases e2 : wholeV c 1 (10 ^ 20) with
    | false => rw [if_pos e2] at q; exact q
    | true =>
    rw [if_neg (by rw [e2]; decide)] at q
    refine ⟨m, rfl, m, 0, 10 ^ 40, tm, rfl, hm, _, rfl, ?_⟩
    cases e3 : wholeV m 0 (10 ^ 40) with
    | false => rw [if_pos e3] at q; exact iteT q
    | true =>
    rw [if_neg (by rw [e3]; decide)] at q
    refine iteF ⟨s, rfl, s, ts, rfl, hs, ?_⟩
    cases e4 : wholeV s 1 (10 ^ 40) with
    | false =>
      rw [if_pos e4] at q
      show spRes T.exc (if wholeV s 1 (10 ^ 40) = false then _ else _) _ _ _
      rw [if_pos e4]; exact q
    | true =>
    rw [if_neg (by rw [e4]; decide)] at q
    show spRes T.exc (if wholeV s 1 (10 ^ 40) = false then _ else _) _ _ _
    rw [if_neg (by rw [e4]; decide)]
    obtain ⟨ci, rfl, c1, c2⟩ := whole_int e2
    obtain ⟨mi, rfl, m1, m2⟩ := whole_int e3
    obtain ⟨si, rfl, s1, s2⟩ := whole_int e4
    obtain ⟨ks, rfl, _⟩ := word_str e1
    refine ⟨_, rfl, _, rfl, _, _, rfl, rfl, _, rfl, ite2 (fun e => ?_) (fun e => ?_)⟩
    · have e5 : si ≤ mi := of_decide_eq_true e
      have q2 : spRes T.exc (if si ≤ mi then .error "BadMark" else .ok (.int (laneAt (.str ks) ci mi si))) H Q E := q
      rw [if_pos e5] at q2
      exact q2
    · have e5 : ¬ si ≤ mi := fun z => e (decide_eq_true z)
      have q2 : spRes T.exc (if si ≤ mi then .error "BadMark" else .ok (.int (laneAt (.str ks) ci mi si))) H Q E := q
      rw [if_neg e5] at q2
      exact ⟨_, rfl, _, rfl, _, rfl, _, rfl, ks, ci, mi, si, rfl, c1, c2, m1, by omega, s2, q2⟩
end

section
variable {P : Program} {w : World} {K : PySem.W.Frag} {mg : Str → Option Value} {base : Heap}
theorem ok_check_moved (T : Txt K mg) : FnOk P w K mg base (L2.CX P w) 3 T.a_check_moved T.d_check_moved ["kind", "before", "after", "size"] (spAskM K T.exc fun _ _ _ _ r => r = .non) := by
  refine T.F_check_moved.okX sc_check_moved (fun vs H Q E h => ?_) (fun cdv A outer s₀ H vs Q E hr h => ?_)
  · obtain ⟨k, b, a, s, _, _, _, _, rfl, _⟩ := h
    rfl
  · obtain ⟨k, b, a, s, tk, tb, ta, ts, rfl, hk, hb, ha, hs, qe, qo⟩ := h
    refine ⟨_, (pss_cons (ps_expr (pe_call (ok_check_kind T) (hr.mono (by decide)) rfl T.g_check_kind T.F_check_kind.kp T.b_check_kind .nil (passes_call (takes_of rfl rfl rfl rfl) (fun _ _ _ _ h => h)) (pa_cons (pv 0) pa_nil)))
      (pss_cons (ps_set (i := 4) sc_check_moved.nd rfl (Or.inl rfl) (pe_ifExp (pt_cmpR op_eq (pv 0) pe_str (nomark _)) (pe_glob rfl T.g_GREATEST_COUNT T.r_GREATEST_COUNT) (pe_glob rfl T.g_GREATEST_MOVED_BY_RANGES T.r_GREATEST_MOVED_BY_RANGES)))
      (pss_cons (ps_expr (pe_call (ok_check_count T) (hr.mono (by decide)) rfl T.g_check_count T.F_check_count.kp T.b_check_count .nil (passes_call (takes_of rfl rfl rfl rfl) (fun _ _ _ _ h => h)) (pa_cons (pv 1) (pa_cons (pv 4) pa_nil))))
      (pss_cons (ps_expr (pe_call (ok_check_count T) (hr.mono (by decide)) rfl T.g_check_count T.F_check_count.kp T.b_check_count .nil (passes_call (takes_of rfl rfl rfl rfl) (fun _ _ _ _ h => h)) (pa_cons (pv 2) (pa_cons (pv 4) pa_nil))))
      (pss_one (ps_expr (pe_call (ok_check_size T) (hr.mono (by decide)) rfl T.g_check_size T.F_check_size.kp T.b_check_size .nil (passes_call (takes_of rfl rfl rfl rfl) (fun _ _ _ _ h => h)) (pa_cons (pv 3) pa_nil)))))))), ?_⟩
    unfold chkM at qe
    refine ⟨k, rfl, k, tk, rfl, hk, ?_⟩
    cases e1 : kindV k with
    | false => exact qe _ (if_pos e1)
    | true =>
    rw [if_neg (by rw [e1]; decide)] at qe
    obtain ⟨ks, rfl, _⟩ := word_str e1
    refine ⟨_, rfl, rfl, _, rfl, ?_⟩
    refine ite2 (fun e => ?_) (fun e => ?_)
    · have e9 : mostOf (.str ks) = 10 ^ 20 := by unfold mostOf; rw [if_pos (of_decide_eq_true e)]
      rw [e9] at qe
      refine ⟨b, rfl, .int (10 ^ 20), rfl, b, 10 ^ 20, tb, rfl, .inl rfl, hb, ?_⟩
      cases e2 : wholeV b 1 (10 ^ 20) with
      | false => rw [if_pos e2] at qe; exact qe _ rfl
      | true =>
      rw [if_neg (by rw [e2]; decide)] at qe
      refine ⟨a, rfl, .int (10 ^ 20), rfl, a, 10 ^ 20, ta, rfl, .inl rfl, ha, ?_⟩
      cases e3 : wholeV a 1 (10 ^ 20) with
      | false => rw [if_pos e3] at qe; exact qe _ rfl
      | true =>
      rw [if_neg (by rw [e3]; decide)] at qe
      refine ⟨s, rfl, s, ts, rfl, hs, ?_⟩
      cases e4 : wholeV s 1 (10 ^ 40) with
      | false =>
        rw [if_pos e4] at qe
        show spRes T.exc (if wholeV s 1 (10 ^ 40) = false then _ else _) _ _ _
        rw [if_pos e4]; exact qe _ rfl
      | true =>
        show spRes T.exc (if wholeV s 1 (10 ^ 40) = false then _ else _) _ _ _
        rw [if_neg (by rw [e4]; decide)]
        obtain ⟨bi, rfl, b1, b2⟩ := whole_int e2
        obtain ⟨ai, rfl, a1, a2⟩ := whole_int e3
        obtain ⟨si, rfl, s1, s2⟩ := whole_int e4
        exact qo ks bi ai si rfl rfl rfl rfl ⟨e1, b1, by rw [e9]; exact b2, a1, by rw [e9]; exact a2, s1, s2⟩ _ rfl
    · have e9 : mostOf (.str ks) = 1000 := by unfold mostOf; rw [if_neg (fun z => e (decide_eq_true z))]
      rw [e9] at qe
      refine ⟨b, rfl, .int 1000, rfl, b, 1000, tb, rfl, .inr rfl, hb, ?_⟩
      cases e2 : wholeV b 1 1000 with
      | false => rw [if_pos e2] at qe; exact qe _ rfl
      | true =>
      rw [if_neg (by rw [e2]; decide)] at qe
      refine ⟨a, rfl, .int 1000, rfl, a, 1000, ta, rfl, .inr rfl, ha, ?_⟩
      cases e3 : wholeV a 1 1000 with
      | false => rw [if_pos e3] at qe; exact qe _ rfl
      | true =>
      rw [if_neg (by rw [e3]; decide)] at qe
      refine ⟨s, rfl, s, ts, rfl, hs, ?_⟩
      cases e4 : wholeV s 1 (10 ^ 40) with
      | false =>
        rw [if_pos e4] at qe
        show spRes T.exc (if wholeV s 1 (10 ^ 40) = false then _ else _) _ _ _
        rw [if_pos e4]; exact qe _ rfl
      | true =>
        show spRes T.exc (if wholeV s 1 (10 ^ 40) = false then _ else _) _ _ _
        rw [if_neg (by rw [e4]; decide)]
        obtain ⟨bi, rfl, b1, b2⟩ := whole_int e2
        obtain ⟨ai, rfl, a1, a2⟩ := whole_int e3
        obtain ⟨si, rfl, s1, s2⟩ := whole_int e4
        exact qo ks bi ai si rfl rfl rfl rfl ⟨e1, b1, by rw [e9]; exact b2, a1, by rw [e9]; exact a2, s1, s2⟩ _ rfl
theorem ok_lane_start (T : Txt K mg) : FnOk P w K mg base CX0 1 T.a_lane_start T.d_lane_start ["lane", "count", "size"] spLstart := by
  refine T.F_lane_start.ok sc_lane_start (fun vs H Q E h => ?_) (fun cdv A outer s₀ H vs Q E hr h => ?_)
  · obtain ⟨l, c, s, rfl, _⟩ := h
    rfl
  · obtain ⟨l, c, s, rfl, l0, l1, c1, c2, s1, s2, q⟩ := h
    refine ⟨_, (pss_one (ps_ret (pe_op op_fdivW (pe_op op_sub (pe_op op_add (pe_op Lc.op_mulX (pv 0) (pv 2)) (pv 1)) pe_int) (pv 1)))), ?_⟩
    have fl : Few l := few_le (b := 2000) l0 l1 (by decide)
    have fs : Few s := few_le (b := 10 ^ 40) (by omega) s2 (by decide)
    exact ⟨_, rfl, _, rfl, _, _, rfl, rfl, mulX fl fs, _, rfl, _, _, rfl, rfl, _, _, rfl, rfl, _, rfl, _, _, rfl, rfl, divX (by omega) (Nat.lt_of_le_of_lt (by omega : c.natAbs ≤ 1000) (by decide)), q⟩
theorem ok_kept_by_rest (T : Txt K mg) : FnOk P w K mg base CX0 1 T.a_kept_by_rest T.d_kept_by_rest ["low", "high", "size"] spKeptRest := by
  refine T.F_kept_by_rest.ok sc_kept_by_rest (fun vs H Q E h => ?_) (fun cdv A outer s₀ H vs Q E hr h => ?_)
  · obtain ⟨l, c, s, rfl, _⟩ := h
    rfl
  · obtain ⟨l, c, s, rfl, l1, l2, c1, c2, s1, s2, q⟩ := h
    refine ⟨_, (pss_cons (ps_set (i := 3) sc_kept_by_rest.nd rfl (Or.inl rfl) (pe_callBfun Lc.cr_lcm rfl T.g_lcm (pa_cons (pv 0) (pa_cons (pv 1) pa_nil))))
      (pss_one (ps_ret (pe_op op_add (pe_op Lc.op_mulX (pe_op op_fdivW (pv 2) (pv 3)) (pv 0)) (pe_callB (call_min2 rfl) (by rfl) T.z_min (by decide +kernel) (pa_cons (pe_op op_mod (pv 2) (pv 3)) (pa_cons (pv 0) pa_nil))))))), ?_⟩
    have el : ((l.toNat : Nat) : Int) = l := Int.toNat_of_nonneg (by omega)
    have ec : ((c.toNat : Nat) : Int) = c := Int.toNat_of_nonneg (by omega)
    have p1 := lcmI_pos l1 c1
    have p2 := lcmI_le l1 c1 l2 c2
    have hp : (lcmI l c).natAbs < 2 ^ 240 := Nat.lt_of_le_of_lt (by omega : (lcmI l c).natAbs ≤ 10 ^ 40) (by decide)
    have fq : Few (s / lcmI l c) := few_le (b := 10 ^ 40) (Int.ediv_nonneg (by omega) (by omega)) (Int.le_trans (Int.ediv_le_self _ (by omega)) s2) (by decide)
    have fl : Few l := few_le (b := 10 ^ 20) (by omega) l2 (by decide)
    refine ⟨_, rfl, _, rfl, l.toNat, c.toNat, (by rw [el, ec]), Nat.lt_of_le_of_lt (by omega : l.toNat ≤ 10 ^ 20) (by decide), Nat.lt_of_le_of_lt (by omega : c.toNat ≤ 10 ^ 20) (by decide), by omega, ?_⟩
    exact ⟨_, rfl, _, rfl, _, _, rfl, rfl, divX (by show 0 < lcmI l c; omega) hp, _, rfl, _, _, rfl, rfl, mulX fq fl, _, rfl, _, rfl, _, _, rfl, rfl, (by show 0 < lcmI l c; omega), _, rfl, _, _, rfl, _, _, rfl, rfl, q⟩
theorem ok_kept_by_ranges (T : Txt K mg) : FnOk P w K mg base CX0 2 T.a_kept_by_ranges T.d_kept_by_ranges ["low", "high", "size"] spKeptRanges := by
  refine T.F_kept_by_ranges.ok sc_kept_by_ranges (fun vs H Q E h => ?_) (fun cdv A outer s₀ H vs Q E hr h => ?_)
  · obtain ⟨l, c, s, rfl, _⟩ := h
    rfl
  · obtain ⟨l, c, s, rfl, l1, l2, c1, c2, s1, s2, q⟩ := h
    refine ⟨_, (pss_cons (ps_set (i := 3) sc_kept_by_ranges.nd rfl (Or.inl rfl) pe_int)
      (pss_cons (ps_for PassesOwn.never rfl (pi_range1 rfl T.z_range (pa_cons (pv 0) pa_nil)) (pg_name (i := 4) sc_kept_by_ranges.nd rfl (Or.inl rfl))
      (pss_one (ps_aug (i := 3) sc_kept_by_ranges.nd rfl (Or.inl rfl) (pe_callB (call_max2 rfl) (by rfl) T.z_max (by decide +kernel) (pa_cons pe_int (pa_cons (pe_op op_sub (pe_call (ok_lane_start T) (hr.mono (by decide)) rfl T.g_lane_start T.F_lane_start.kp T.b_lane_start .nil pass0 (pa_cons (pe_op op_add (pv 4) pe_int) (pa_cons (pv 1) (pa_cons (pv 2) pa_nil)))) (pe_call (ok_lane_start T) (hr.mono (by decide)) rfl T.g_lane_start T.F_lane_start.kp T.b_lane_start .nil pass0 (pa_cons (pv 4) (pa_cons (pv 0) (pa_cons (pv 2) pa_nil))))) pa_nil))) ip_add)))
      (pss_one (ps_ret (pv 3))))), ?_⟩
    refine ⟨_, rfl, l, rfl, by omega, by omega, for_range (n := l.toNat) (fun i σ' H' => ∃ x, σ' = [some (.int l), some (.int c), some (.int s), some (.int (keptR c l s i)), x] ∧ H' = H) ⟨none, rfl, rfl⟩ ?_ ?_⟩
    · rintro i σ' H' hi ⟨x, rfl, rfl⟩
      have e0 : (0 : Int) + (i : Int) = i := Int.zero_add _
      refine ⟨_, rfl, _, rfl, _, _, rfl, rfl, _, rfl, _, rfl, _, _, _, rfl, by omega, by omega, c1, c2, s1, s2, _, rfl, _, rfl, _, rfl, _, _, _, rfl, by omega, by omega, by omega, by omega, s1, s2, _, _, rfl, rfl, _, _, rfl, _, _, rfl, rfl, some (.int ((0 : Int) + i)), ?_, rfl⟩
      rw [e0]
      rfl
    · rintro σ' H' ⟨x, rfl, rfl⟩
      exact ⟨_, rfl, q⟩
theorem ok_first_moved_by_ranges (T : Txt K mg) : FnOk P w K mg base CX0 2 T.a_first_moved_by_ranges T.d_first_moved_by_ranges ["low", "high", "size"] spFirstRanges := by
  refine T.F_first_moved_by_ranges.ok sc_first_moved_by_ranges (fun vs H Q E h => ?_) (fun cdv A outer s₀ H vs Q E hr h => ?_)
  · obtain ⟨l, c, s, rfl, _⟩ := h
    rfl
  · obtain ⟨l, c, s, rfl, l1, l2, c1, c2, s1, s2, q⟩ := h
    refine ⟨_, (pss_cons (ps_for PassesOwn.never rfl (pi_range2 rfl T.z_range (pa_cons pe_int (pa_cons (pe_op op_add (pv 0) pe_int) pa_nil))) (pg_name (i := 3) sc_first_moved_by_ranges.nd rfl (Or.inl rfl))
      (pss_cons (ps_set (i := 4) sc_first_moved_by_ranges.nd rfl (Or.inl rfl) (pe_call (ok_lane_start T) (hr.mono (by decide)) rfl T.g_lane_start T.F_lane_start.kp T.b_lane_start .nil pass0 (pa_cons (pv 3) (pa_cons (pv 1) (pa_cons (pv 2) pa_nil)))))
      (pss_one (ps_if (pt_cmpR op_lt (pv 4) (pe_call (ok_lane_start T) (hr.mono (by decide)) rfl T.g_lane_start T.F_lane_start.kp T.b_lane_start .nil pass0 (pa_cons (pv 3) (pa_cons (pv 0) (pa_cons (pv 2) pa_nil)))) (nomark _))
      (pss_one (ps_ret (pv 4)))
      pss_nil))))
      (pss_one (ps_ret pe_non))), ?_⟩
    refine ⟨_, rfl, _, _, rfl, rfl, 1, l + 1, rfl, ⟨by decide, by decide, by omega, by omega⟩, for_range (lo := 1) (n := (l + 1 - 1).toNat) (fun i σ' H' => ∃ x y, σ' = [some (.int l), some (.int c), some (.int s), x, y] ∧ H' = H ∧ ∀ j : Int, 1 ≤ j → j ≤ i → lstart j l s ≤ lstart j c s) ⟨none, none, rfl, rfl, fun j h1 h2 => by omega⟩ ?_ ?_⟩
    · rintro i σ' H' hi ⟨x, y, rfl, rfl, hj⟩
      refine ⟨_, rfl, _, rfl, _, rfl, _, _, _, rfl, by omega, by omega, c1, c2, s1, s2, _, rfl, _, rfl, _, rfl, _, rfl, _, _, _, rfl, by omega, by omega, by omega, by omega, s1, s2, _, _, rfl, rfl, _, rfl, ite2 (fun e => ?_) (fun e => ?_)⟩
      · exact ⟨_, rfl, q _ (.at _ (by omega) (by omega) (of_decide_eq_true e) fun j h1 h2 => hj j h1 (by omega))⟩
      · refine ⟨_, _, rfl, rfl, fun j h1 h2 => ?_⟩
        by_cases h3 : j ≤ i
        · exact hj j h1 h3
        · have e2 : j = 1 + (i : Int) := by omega
          subst e2
          have e3 : ¬ lstart (1 + (i : Int)) c s < lstart (1 + (i : Int)) l s := fun z => e (decide_eq_true z)
          omega
    · rintro σ' H' ⟨x, y, rfl, rfl, hj⟩
      exact q _ (.no fun j h1 h2 => hj j h1 (by omega))
theorem low_high {b a m : Int} (b1 : 1 ≤ b) (b2 : b ≤ m) (a1 : 1 ≤ a) (a2 : a ≤ m) : 1 ≤ lowI b a ∧ lowI b a ≤ m ∧ 1 ≤ highI b a ∧ highI b a ≤ m := by
  unfold lowI highI
  split <;> split <;> omega
theorem ok_count_moved (T : Txt K mg) : FnOk P w K mg base (L2.CX P w) 4 T.a_count_moved T.d_count_moved ["kind", "before", "after", "size"] (spAskM K T.exc fun ks b a s r => r = .int (countM ks b a s)) := by
  refine T.F_count_moved.okX sc_count_moved (fun vs H Q E h => ?_) (fun cdv A outer s₀ H vs Q E hr h => ?_)
  · obtain ⟨k, b, a, s, _, _, _, _, rfl, _⟩ := h
    rfl
  · obtain ⟨k, b, a, s, tk, tb, ta, ts, rfl, hk, hb, ha, hs, qe, qo⟩ := h
    refine ⟨_, (pss_cons (ps_expr (pe_call (ok_check_moved T) (hr.mono (by decide)) rfl T.g_check_moved T.F_check_moved.kp T.b_check_moved .nil (passes_call (takes_of rfl rfl rfl rfl) (fun _ _ _ _ h => h)) (pa_cons (pv 0) (pa_cons (pv 1) (pa_cons (pv 2) (pa_cons (pv 3) pa_nil))))))
      (pss_cons (ps_par (i := 4) (j := 5) rfl sc_count_moved.nd rfl rfl (by decide) rfl rfl (pa_cons (pe_callB (call_min2 rfl) (by rfl) T.z_min (by decide +kernel) (pa_cons (pv 1) (pa_cons (pv 2) pa_nil))) (pa_cons (pe_callB (call_max2 rfl) (by rfl) T.z_max (by decide +kernel) (pa_cons (pv 1) (pa_cons (pv 2) pa_nil))) pa_nil)) rfl)
      (pss_cons (ps_if (pt_cmpR op_eq (pv 0) pe_str (nomark _))
      (pss_one (ps_ret (pe_op op_sub (pv 3) (pe_call (ok_kept_by_rest T) (hr.mono (by decide)) rfl T.g_kept_by_rest T.F_kept_by_rest.kp T.b_kept_by_rest .nil pass0 (pa_cons (pv 4) (pa_cons (pv 5) (pa_cons (pv 3) pa_nil)))))))
      pss_nil)
      (pss_one (ps_ret (pe_op op_sub (pv 3) (pe_call (ok_kept_by_ranges T) (hr.mono (by decide)) rfl T.g_kept_by_ranges T.F_kept_by_ranges.kp T.b_kept_by_ranges .nil pass0 (pa_cons (pv 4) (pa_cons (pv 5) (pa_cons (pv 3) pa_nil)))))))))), ?_⟩
    refine ⟨_, rfl, _, rfl, _, rfl, _, rfl, k, b, a, s, tk, tb, ta, ts, rfl, hk, hb, ha, hs, qe, ?_⟩
    rintro ks bi ai si rfl rfl rfl rfl M _ rfl
    have q := qo ks bi ai si rfl rfl rfl rfl M _ rfl
    have lh := low_high M.b1 M.b2 M.a1 M.a2
    refine ⟨_, rfl, _, rfl, _, _, rfl, _, rfl, _, rfl, _, _, rfl, _, _, rfl, ?_⟩
    refine ⟨_, rfl, rfl, _, rfl, ite2 (fun e => ?_) (fun e => ?_)⟩
    · have e2 : V.str ks = .str "rest" := of_decide_eq_true e
      have e9 : mostOf (.str ks) = 10 ^ 20 := by unfold mostOf; rw [if_pos e2]
      rw [e9] at lh
      refine ⟨_, rfl, _, rfl, _, rfl, _, rfl, _, _, _, rfl, lh.1, lh.2.1, lh.2.2.1, lh.2.2.2, M.s1, M.s2, _, _, rfl, rfl, ?_⟩
      unfold countM at q
      rw [if_pos e2] at q
      exact q
    · have e2 : ¬ V.str ks = .str "rest" := fun z => e (decide_eq_true z)
      have e9 : mostOf (.str ks) = 1000 := by unfold mostOf; rw [if_neg e2]
      rw [e9] at lh
      refine ⟨_, rfl, _, rfl, _, rfl, _, rfl, _, _, _, rfl, lh.1, lh.2.1, lh.2.2.1, lh.2.2.2, M.s1, M.s2, _, _, rfl, rfl, ?_⟩
      unfold countM at q
      rw [if_neg e2] at q
      exact q
theorem ok_first_moved (T : Txt K mg) : FnOk P w K mg base (L2.CX P w) 4 T.a_first_moved T.d_first_moved ["kind", "before", "after", "size"] (spAskM K T.exc FirstM) := by
  refine T.F_first_moved.okX sc_first_moved (fun vs H Q E h => ?_) (fun cdv A outer s₀ H vs Q E hr h => ?_)
  · obtain ⟨k, b, a, s, _, _, _, _, rfl, _⟩ := h
    rfl
  · obtain ⟨k, b, a, s, tk, tb, ta, ts, rfl, hk, hb, ha, hs, qe, qo⟩ := h
    refine ⟨_, (pss_cons (ps_expr (pe_call (ok_check_moved T) (hr.mono (by decide)) rfl T.g_check_moved T.F_check_moved.kp T.b_check_moved .nil (passes_call (takes_of rfl rfl rfl rfl) (fun _ _ _ _ h => h)) (pa_cons (pv 0) (pa_cons (pv 1) (pa_cons (pv 2) (pa_cons (pv 3) pa_nil))))))
      (pss_cons (ps_par (i := 4) (j := 5) rfl sc_first_moved.nd rfl rfl (by decide) rfl rfl (pa_cons (pe_callB (call_min2 rfl) (by rfl) T.z_min (by decide +kernel) (pa_cons (pv 1) (pa_cons (pv 2) pa_nil))) (pa_cons (pe_callB (call_max2 rfl) (by rfl) T.z_max (by decide +kernel) (pa_cons (pv 1) (pa_cons (pv 2) pa_nil))) pa_nil)) rfl)
      (pss_cons (ps_if (pt_cmpR op_eq (pv 0) pe_str (nomark _))
      (pss_one (ps_ret (pe_call (ok_first_moved_by_ranges T) (hr.mono (by decide)) rfl T.g_first_moved_by_ranges T.F_first_moved_by_ranges.kp T.b_first_moved_by_ranges .nil pass0 (pa_cons (pv 4) (pa_cons (pv 5) (pa_cons (pv 3) pa_nil))))))
      pss_nil)
      (pss_one (ps_ret (pe_ifExp (pt_cmpR op_lt (pv 4) (pe_callB (call_min2 rfl) (by rfl) T.z_min (by decide +kernel) (pa_cons (pv 5) (pa_cons (pv 3) pa_nil))) (nomark _)) (pv 4) pe_non)))))), ?_⟩
    refine ⟨_, rfl, _, rfl, _, rfl, _, rfl, k, b, a, s, tk, tb, ta, ts, rfl, hk, hb, ha, hs, qe, ?_⟩
    rintro ks bi ai si rfl rfl rfl rfl M _ rfl
    have q := qo ks bi ai si rfl rfl rfl rfl M
    have lh := low_high M.b1 M.b2 M.a1 M.a2
    refine ⟨_, rfl, _, rfl, _, _, rfl, _, rfl, _, rfl, _, _, rfl, _, _, rfl, ?_⟩
    refine ⟨_, rfl, rfl, _, rfl, ite2 (fun e => ?_) (fun e => ?_)⟩
    · have e2 : V.str ks = .str "ranges" := of_decide_eq_true e
      have e9 : mostOf (.str ks) = 1000 := by
        rcases most_cases M.k with h | h
        · rw [e2] at h; exact absurd h.1 (by decide)
        · exact h.2.2
      rw [e9] at lh
      refine ⟨_, rfl, _, rfl, _, rfl, _, _, _, rfl, lh.1, lh.2.1, lh.2.2.1, lh.2.2.2, M.s1, M.s2, fun r hr => q r ?_⟩
      unfold FirstM
      rw [if_pos e2]
      exact hr
    · have e2 : ¬ V.str ks = .str "ranges" := fun z => e (decide_eq_true z)
      refine ⟨_, rfl, _, rfl, _, rfl, _, _, rfl, _, _, rfl, rfl, _, rfl, ite2 (fun e3 => ?_) (fun e3 => ?_)⟩
      · refine ⟨_, rfl, q _ ?_⟩
        unfold FirstM
        rw [if_neg e2]
        exact (if_pos (show lowI bi ai < (if si < highI bi ai then si else highI bi ai) from of_decide_eq_true e3)).symm
      · refine q _ ?_
        unfold FirstM
        rw [if_neg e2]
        exact (if_neg (show ¬ lowI bi ai < (if si < highI bi ai then si else highI bi ai) from fun z => e3 (decide_eq_true z))).symm
end

def spLaw (K : PySem.W.Frag) : Sp := fun vs H Q _ => ∃ (a : Addr) (ns : List Int), vs = [.ref a] ∧ SqL K H a (ns.map V.int) ∧ ns.length ≤ 63 ∧ (∀ z ∈ ns, Builtin.Int.intBits z ≤ 1048576) ∧ ∀ H', Q (.bl true) H'
/-! ### who asks, and what is told -/
def askR (door : Int) (k b a s : V) : Option String := if door = 0 then (match laneOf k b a s with | .error e => some e | .ok _ => none) else chkM k b a s
def nameS (e : String) : Str := if e = "BadKind" then "kind" else if e = "BadCount" then "count" else if e = "BadMark" then "mark" else "size"
def toldS : Option String → Str
  | none => "none"
  | some e => nameS e
def Errs (e : String) : Prop := e = "BadKind" ∨ e = "BadCount" ∨ e = "BadMark" ∨ e = "BadSize"
theorem lane_errs {k b a s : V} {e : String} (h : laneOf k b a s = .error e) : Errs e := by
  unfold laneOf at h
  split at h
  · cases h; exact .inl rfl
  split at h
  · cases h; exact .inr (.inl rfl)
  split at h
  · cases h; exact .inr (.inr (.inl rfl))
  split at h
  · cases h; exact .inr (.inr (.inr rfl))
  split at h
  · split at h
    · cases h; exact .inr (.inr (.inl rfl))
    · cases h
  · cases h
theorem chk_errs {k b a s : V} {e : String} (h : chkM k b a s = some e) : Errs e := by
  unfold chkM at h
  split at h
  · cases h; exact .inl rfl
  split at h
  · cases h; exact .inr (.inl rfl)
  split at h
  · cases h; exact .inr (.inl rfl)
  split at h
  · cases h; exact .inr (.inr (.inr rfl))
  · cases h
theorem ask_errs {door : Int} {k b a s : V} {e : String} (h : askR door k b a s = some e) : Errs e := by
  unfold askR at h
  by_cases d : door = 0
  · rw [if_pos d] at h
    cases q : laneOf k b a s with
    | error n => rw [q] at h; cases h; exact lane_errs q
    | ok v => rw [q] at h; cases h
  · rw [if_neg d] at h
    exact chk_errs h
/-- an object at hand, not the source of draws -/
structure Hand (K : PySem.W.Frag) (p : Addr) (H : Hp) (v : V) : Prop where
  ar : ∃ n, Arg K H v n
  ne : v ≠ .ref p
theorem arg_but {K : PySem.W.Frag} {p : Addr} {H H' : Hp} {v : V} {n : String} (h : Arg K H v n) (ne : v ≠ .ref p) (b : But p H H') : Arg K H' v n := by
  cases h with
  | non => exact .non
  | bl x => exact .bl x
  | int x => exact .int x
  | str x => exact .str x
  | lst e => exact .lst (b _ _ (fun z => ne (by rw [z])) e)
  | tup e => exact .tup (b _ _ (fun z => ne (by rw [z])) e)
  | dK e => exact .dK (b _ _ (fun z => ne (by rw [z])) e)
theorem Hand.but {K : PySem.W.Frag} {p : Addr} {H H' : Hp} {v : V} (h : Hand K p H v) (b : But p H H') : Hand K p H' v := by
  obtain ⟨⟨n, hn⟩, ne⟩ := h
  exact ⟨⟨n, arg_but hn ne b⟩, ne⟩
theorem Hand.same {K : PySem.W.Frag} {p : Addr} {H H' : Hp} {v : V} (h : Hand K p H v) (b : Same H H') : Hand K p H' v := h.but fun c o _ e => b c o e
theorem Hand.int {K : PySem.W.Frag} {p : Addr} {H : Hp} (i : Int) : Hand K p H (.int i) := ⟨⟨_, .int i⟩, fun z => nomatch z⟩
theorem Hand.str {K : PySem.W.Frag} {p : Addr} {H : Hp} (i : Str) : Hand K p H (.str i) := ⟨⟨_, .str i⟩, fun z => nomatch z⟩
theorem Hand.bl {K : PySem.W.Frag} {p : Addr} {H : Hp} (i : Bool) : Hand K p H (.bl i) := ⟨⟨_, .bl i⟩, fun z => nomatch z⟩
theorem Hand.non {K : PySem.W.Frag} {p : Addr} {H : Hp} : Hand K p H .non := ⟨⟨_, .non⟩, fun z => nomatch z⟩
theorem atI_mem {α : Type} {xs : List α} {d : Int} (h0 : 0 ≤ d) (h1 : d < xs.length) : ∃ v, atI xs d = some v ∧ v ∈ xs := by
  obtain ⟨j, rfl⟩ : ∃ j : Nat, d = j := ⟨d.toNat, by omega⟩
  have hj : j < xs.length := by omega
  exact ⟨xs[j], atI_nat (List.getElem?_eq_getElem hj), List.getElem_mem hj⟩
def mostD (door : Int) (kd : V) : Int := if 0 < door ∧ kd = .str "ranges" then 1000 else 10 ^ 20
def spCounts (K : PySem.W.Frag) : Sp := fun vs H Q _ => ∃ (p : Addr) (n : Nat) (door : Int) (kd : Str), vs = [.ref p, .int door, .str kd] ∧ Src H p n ∧ n + 2 < 1000000 ∧
  ∀ r H' g w, H r = none → Src H' p (n + 2) → But p H H' → r ≠ p → H' r = some (.lst [.int g, w]) → Hand K p H' w → 1 ≤ g → g ≤ mostD door (.str kd) → wholeV w 1 (mostD door (.str kd)) = false → Q (.ref r) H'
def spAsk (K : PySem.W.Frag) (exc : String → Addr) : Sp := fun vs H Q E => ∃ (door : Int) (r : Addr) (k b a s : V), vs = [.int door, .ref r] ∧ H r = some (.lst [k, b, a, s]) ∧ (∃ n, Arg K H k n) ∧ (∃ n, Arg K H b n) ∧ (∃ n, Arg K H a n) ∧ (∃ n, Arg K H s n) ∧
  (askR door k b a s = none → Q .non H) ∧ (∀ e, askR door k b a s = some e → E (.ref (exc e)) none H)
def spTold (K : PySem.W.Frag) : Sp := fun vs H Q _ => ∃ (door : Int) (r : Addr) (k b a s : V), vs = [.int door, .ref r] ∧ H r = some (.lst [k, b, a, s]) ∧ (∃ n, Arg K H k n) ∧ (∃ n, Arg K H b n) ∧ (∃ n, Arg K H a n) ∧ (∃ n, Arg K H s n) ∧
  Q (.str (toldS (askR door k b a s))) H
def spBase (K : PySem.W.Frag) : Sp := fun vs H Q _ => ∃ (door : Int) (r : Addr) (k b a s : V), vs = [.int door, .ref r] ∧ H r = some (.lst [k, b, a, s]) ∧ (∃ n, Arg K H k n) ∧ (∃ n, Arg K H b n) ∧ (∃ n, Arg K H a n) ∧ (∃ n, Arg K H s n) ∧
  Q (.bl (askR door k b a s).isSome) H
section
variable {P : Program} {w : World} {K : PySem.W.Frag} {mg : Str → Option Value} {base : Heap}
theorem ok_law_ask (T : Txt K mg) : FnOk P w K mg base (L2.CX P w) 5 T.a_law_ask T.d_law_ask ["_law_door", "_law_row"] (spAsk K T.exc) := by
  refine T.F_law_ask.okX sc_law_ask (fun vs H Q E h => ?_) (fun cdv A outer s₀ H vs Q E hr h => ?_)
  · obtain ⟨door, r, k, b, a, s, rfl, _⟩ := h
    rfl
  · obtain ⟨door, r, k, b, a, s, rfl, hr', ⟨tk, hk⟩, ⟨tb, hb⟩, ⟨ta, ha⟩, ⟨ts, hs⟩, qo, qe⟩ := h
    refine ⟨_, (pss_one (ps_if (pt_cmpR op_eq (pv 0) pe_int (nomark _))
      (pss_one (ps_expr (pe_call (ok_lane_of T) (hr.mono (by decide)) rfl T.g_lane_of T.F_lane_of.kp T.b_lane_of .nil (passes_call (takes_of rfl rfl rfl rfl) (fun _ _ _ _ h => h)) (pa_cons (pe_ix ix_list (pv 1) pe_int (fun _ _ => rfl)) (pa_cons (pe_ix ix_list (pv 1) pe_int (fun _ _ => rfl)) (pa_cons (pe_ix ix_list (pv 1) pe_int (fun _ _ => rfl)) (pa_cons (pe_ix ix_list (pv 1) pe_int (fun _ _ => rfl)) pa_nil)))))))
      (pss_one (ps_if (pt_cmpR op_eq (pv 0) pe_int (nomark _))
      (pss_one (ps_expr (pe_call (ok_count_moved T) (hr.mono (by decide)) rfl T.g_count_moved T.F_count_moved.kp T.b_count_moved .nil (passes_call (takes_of rfl rfl rfl rfl) (fun _ _ _ _ h => h)) (pa_cons (pe_ix ix_list (pv 1) pe_int (fun _ _ => rfl)) (pa_cons (pe_ix ix_list (pv 1) pe_int (fun _ _ => rfl)) (pa_cons (pe_ix ix_list (pv 1) pe_int (fun _ _ => rfl)) (pa_cons (pe_ix ix_list (pv 1) pe_int (fun _ _ => rfl)) pa_nil)))))))
      (pss_one (ps_expr (pe_call (ok_first_moved T) (hr.mono (by decide)) rfl T.g_first_moved T.F_first_moved.kp T.b_first_moved .nil (passes_call (takes_of rfl rfl rfl rfl) (fun _ _ _ _ h => h)) (pa_cons (pe_ix ix_list (pv 1) pe_int (fun _ _ => rfl)) (pa_cons (pe_ix ix_list (pv 1) pe_int (fun _ _ => rfl)) (pa_cons (pe_ix ix_list (pv 1) pe_int (fun _ _ => rfl)) (pa_cons (pe_ix ix_list (pv 1) pe_int (fun _ _ => rfl)) pa_nil))))))))))), ?_⟩
    unfold askR at qo qe
    refine ⟨_, rfl, rfl, _, rfl, ite2 (fun e => ?_) (fun e => ?_)⟩
    · have e0 : door = 0 := V.int.inj (of_decide_eq_true e)
      rw [if_pos e0] at qo qe
      refine ⟨_, rfl, r, _, 0, k, rfl, rfl, SqL.of hr', atI_nat (j := 0) rfl, _, rfl, r, _, 1, b, rfl, rfl, SqL.of hr', atI_nat (j := 1) rfl, _, rfl, r, _, 2, a, rfl, rfl, SqL.of hr', atI_nat (j := 2) rfl, _, rfl, r, _, 3, s, rfl, rfl, SqL.of hr', atI_nat (j := 3) rfl, k, b, a, s, tk, tb, ta, ts, rfl, hk, hb, ha, hs, ?_⟩
      cases el : laneOf k b a s with
      | error n => rw [el] at qe; exact qe n rfl
      | ok v => rw [el] at qo; exact qo rfl
    · have e0 : ¬ door = 0 := fun z => e (decide_eq_true (congrArg V.int z))
      rw [if_neg e0] at qo qe
      refine ⟨_, rfl, rfl, _, rfl, ite2 (fun e => ?_) (fun e => ?_)⟩
      · refine ⟨_, rfl, r, _, 0, k, rfl, rfl, SqL.of hr', atI_nat (j := 0) rfl, _, rfl, r, _, 1, b, rfl, rfl, SqL.of hr', atI_nat (j := 1) rfl, _, rfl, r, _, 2, a, rfl, rfl, SqL.of hr', atI_nat (j := 2) rfl, _, rfl, r, _, 3, s, rfl, rfl, SqL.of hr', atI_nat (j := 3) rfl, k, b, a, s, tk, tb, ta, ts, rfl, hk, hb, ha, hs, qe, ?_⟩
        rintro ks bi ai si rfl rfl rfl rfl M _ _
        exact qo (chkM_ok M)
      · refine ⟨_, rfl, r, _, 0, k, rfl, rfl, SqL.of hr', atI_nat (j := 0) rfl, _, rfl, r, _, 1, b, rfl, rfl, SqL.of hr', atI_nat (j := 1) rfl, _, rfl, r, _, 2, a, rfl, rfl, SqL.of hr', atI_nat (j := 2) rfl, _, rfl, r, _, 3, s, rfl, rfl, SqL.of hr', atI_nat (j := 3) rfl, k, b, a, s, tk, tb, ta, ts, rfl, hk, hb, ha, hs, qe, ?_⟩
        rintro ks bi ai si rfl rfl rfl rfl M _ _
        exact qo (chkM_ok M)
theorem ok_law_told (T : Txt K mg) : FnOk P w K mg base CX0 6 T.a_law_told T.d_law_told ["_law_door", "_law_row"] (spTold K) := by
  refine T.F_law_told.ok sc_law_told (fun vs H Q E h => ?_) (fun cdv A outer s₀ H vs Q E hr h => ?_)
  · obtain ⟨door, r, k, b, a, s, rfl, _⟩ := h
    rfl
  · obtain ⟨door, r, k, b, a, s, rfl, hr', hk, hb, ha, hs, q⟩ := h
    refine ⟨_, (pss_cons (ps_set (i := 2) sc_law_told.nd rfl (Or.inl rfl) pe_str)
      (pss_cons (ps_try_many (Wout := fun _ _ _ _ => False) rfl rfl takes0 (fun W pn xe tk _ => (pss_one (ps_expr (pe_callS (ok_law_ask T) (hr.mono (by decide)) rfl T.g_law_ask T.F_law_ask.kp T.b_law_ask (fun σ => passAt tk σ) (pa_cons (pv 0) (pa_cons (pv 1) pa_nil)))))) (.cons ⟨rfl, by decide, .inl T.g_BadKind⟩ (fun a oe cls d pn hz hf => (pss_one (ps_set (i := 2) sc_law_told.nd rfl (Or.inl rfl) pe_str))) (.cons ⟨rfl, by decide, .inl T.g_BadCount⟩ (fun a oe cls d pn hz hf => (pss_one (ps_set (i := 2) sc_law_told.nd rfl (Or.inl rfl) pe_str))) (.cons ⟨rfl, by decide, .inl T.g_BadMark⟩ (fun a oe cls d pn hz hf => (pss_one (ps_set (i := 2) sc_law_told.nd rfl (Or.inl rfl) pe_str))) (.cons ⟨rfl, by decide, .inl T.g_BadSize⟩ (fun a oe cls d pn hz hf => (pss_one (ps_set (i := 2) sc_law_told.nd rfl (Or.inl rfl) pe_str))) .nil)))))
      (pss_one (ps_ret (pv 2))))), ?_⟩
    refine ⟨_, rfl, _, rfl, door, r, k, b, a, s, rfl, hr', hk, hb, ha, hs, fun e => ?_, fun e he => ?_⟩
    · rw [e] at q
      exact ⟨_, rfl, q⟩
    · rw [he] at q
      rcases ask_errs he with rfl | rfl | rfl | rfl
      · exact ⟨true, exm_pair T.p_BadKind T.i_BadKind T.t_BadKind T.q_BadKind_BadKind, fun _ _ _ => ⟨_, rfl, q⟩, fun z => nomatch z⟩
      · exact ⟨false, exm_pair T.p_BadKind T.i_BadKind T.t_BadKind T.q_BadCount_BadKind, fun z => (nomatch z), fun _ => ⟨true, exm_pair T.p_BadCount T.i_BadCount T.t_BadCount T.q_BadCount_BadCount, fun _ _ _ => ⟨_, rfl, q⟩, fun z => nomatch z⟩⟩
      · exact ⟨false, exm_pair T.p_BadKind T.i_BadKind T.t_BadKind T.q_BadMark_BadKind, fun z => (nomatch z), fun _ => ⟨false, exm_pair T.p_BadCount T.i_BadCount T.t_BadCount T.q_BadMark_BadCount, fun z => (nomatch z), fun _ => ⟨true, exm_pair T.p_BadMark T.i_BadMark T.t_BadMark T.q_BadMark_BadMark, fun _ _ _ => ⟨_, rfl, q⟩, fun z => nomatch z⟩⟩⟩
      · exact ⟨false, exm_pair T.p_BadKind T.i_BadKind T.t_BadKind T.q_BadSize_BadKind, fun z => (nomatch z), fun _ => ⟨false, exm_pair T.p_BadCount T.i_BadCount T.t_BadCount T.q_BadSize_BadCount, fun z => (nomatch z), fun _ => ⟨false, exm_pair T.p_BadMark T.i_BadMark T.t_BadMark T.q_BadSize_BadMark, fun z => (nomatch z), fun _ => ⟨true, exm_pair T.p_BadSize T.i_BadSize T.t_BadSize T.q_BadSize_BadSize, fun _ _ _ => ⟨_, rfl, q⟩, fun z => nomatch z⟩⟩⟩⟩
theorem ok_law_base (T : Txt K mg) : FnOk P w K mg base CX0 6 T.a_law_base T.d_law_base ["_law_door", "_law_row"] (spBase K) := by
  refine T.F_law_base.ok sc_law_base (fun vs H Q E h => ?_) (fun cdv A outer s₀ H vs Q E hr h => ?_)
  · obtain ⟨door, r, k, b, a, s, rfl, _⟩ := h
    rfl
  · obtain ⟨door, r, k, b, a, s, rfl, hr', hk, hb, ha, hs, q⟩ := h
    refine ⟨_, (pss_cons (ps_set (i := 2) sc_law_base.nd rfl (Or.inl rfl) pe_bl)
      (pss_cons (ps_try_as (i := 3) (Wout := fun _ _ _ _ => False) rfl rfl sc_law_base.nd rfl rfl ⟨rfl, by decide, .inl T.g_LaneError⟩ takes0 (fun W pn xe tk _ => (pss_one (ps_expr (pe_callS (ok_law_ask T) (hr.mono (by decide)) rfl T.g_law_ask T.F_law_ask.kp T.b_law_ask (fun σ => passAt tk σ) (pa_cons (pv 0) (pa_cons (pv 1) pa_nil)))))) (fun a oe cls d pn hz hf => (pss_one (ps_set (i := 2) sc_law_base.nd rfl (Or.inl rfl) (pe_callB (Lc.call_isG hz hf) (by rfl) T.z_isinstance (by decide +kernel) (pa_cons (pv 3) (pa_cons (pe_bltn (v := .ty "ValueError") (by rfl) T.z_ValueError (by decide +kernel) rfl) pa_nil)))))))
      (pss_one (ps_ret (pv 2))))), ?_⟩
    refine ⟨_, rfl, _, rfl, door, r, k, b, a, s, rfl, hr', hk, hb, ha, hs, fun e => ?_, fun e he => ?_⟩
    · rw [e] at q
      exact ⟨_, rfl, q⟩
    · rw [he] at q
      rcases ask_errs he with rfl | rfl | rfl | rfl
      · exact ⟨true, exm_pair T.p_LaneError T.i_LaneError T.t_LaneError T.q_BadKind_LaneError, fun _ _ _ => ⟨_, rfl, _, rfl, rfl, T.e_BadKind, .ty "ValueError", _, _, rfl, fun u z => z, kit_ve T.v_BadKind, _, rfl, q⟩, fun z => nomatch z⟩
      · exact ⟨true, exm_pair T.p_LaneError T.i_LaneError T.t_LaneError T.q_BadCount_LaneError, fun _ _ _ => ⟨_, rfl, _, rfl, rfl, T.e_BadCount, .ty "ValueError", _, _, rfl, fun u z => z, kit_ve T.v_BadCount, _, rfl, q⟩, fun z => nomatch z⟩
      · exact ⟨true, exm_pair T.p_LaneError T.i_LaneError T.t_LaneError T.q_BadMark_LaneError, fun _ _ _ => ⟨_, rfl, _, rfl, rfl, T.e_BadMark, .ty "ValueError", _, _, rfl, fun u z => z, kit_ve T.v_BadMark, _, rfl, q⟩, fun z => nomatch z⟩
      · exact ⟨true, exm_pair T.p_LaneError T.i_LaneError T.t_LaneError T.q_BadSize_LaneError, fun _ _ _ => ⟨_, rfl, _, rfl, rfl, T.e_BadSize, .ty "ValueError", _, _, rfl, fun u z => z, kit_ve T.v_BadSize, _, rfl, q⟩, fun z => nomatch z⟩
end

theorem bads_at {good : V → Prop} {xs : List V} {d : Int} (h0 : 0 ≤ d) (h1 : d < xs.length) (h : ∀ v ∈ xs, good v) : ∃ v, atI xs d = some v ∧ good v := by
  obtain ⟨v, e, m⟩ := atI_mem h0 h1
  exact ⟨v, e, h v m⟩
theorem all8 {α : Type} {P : α → Prop} {a b c d e f g h : α} (ha : P a) (hb : P b) (hc : P c) (hd : P d) (he : P e) (hf : P f) (hg : P g) (hh : P h) : ∀ v ∈ [a, b, c, d, e, f, g, h], P v := by
  intro v hv
  simp only [List.mem_cons, List.not_mem_nil, or_false] at hv
  rcases hv with rfl | rfl | rfl | rfl | rfl | rfl | rfl | rfl <;> assumption
theorem all5 {α : Type} {P : α → Prop} {a b c d e : α} (ha : P a) (hb : P b) (hc : P c) (hd : P d) (he : P e) : ∀ v ∈ [a, b, c, d, e], P v := by
  intro v hv
  simp only [List.mem_cons, List.not_mem_nil, or_false] at hv
  rcases hv with rfl | rfl | rfl | rfl | rfl <;> assumption
theorem all6 {α : Type} {P : α → Prop} {a b c d e f : α} (ha : P a) (hb : P b) (hc : P c) (hd : P d) (he : P e) (hf : P f) : ∀ v ∈ [a, b, c, d, e, f], P v := by
  intro v hv
  simp only [List.mem_cons, List.not_mem_nil, or_false] at hv
  rcases hv with rfl | rfl | rfl | rfl | rfl | rfl <;> assumption
theorem all7 {α : Type} {P : α → Prop} {a b c d e f g : α} (ha : P a) (hb : P b) (hc : P c) (hd : P d) (he : P e) (hf : P f) (hg : P g) : ∀ v ∈ [a, b, c, d, e, f, g], P v := by
  intro v hv
  simp only [List.mem_cons, List.not_mem_nil, or_false] at hv
  rcases hv with rfl | rfl | rfl | rfl | rfl | rfl | rfl <;> assumption
theorem all9 {α : Type} {P : α → Prop} {a b c d e f g h i : α} (ha : P a) (hb : P b) (hc : P c) (hd : P d) (he : P e) (hf : P f) (hg : P g) (hh : P h) (hi : P i) : ∀ v ∈ [a, b, c, d, e, f, g, h, i], P v := by
  intro v hv
  simp only [List.mem_cons, List.not_mem_nil, or_false] at hv
  rcases hv with rfl | rfl | rfl | rfl | rfl | rfl | rfl | rfl | rfl <;> assumption
/-- wrong as an integer from lo to hi -/
def Wrong (K : PySem.W.Frag) (p : Addr) (H : Hp) (lo hi : Int) (v : V) : Prop := Hand K p H v ∧ wholeV v lo hi = false
def GoodI (hi : Int) (v : V) : Prop := ∃ g : Int, v = .int g ∧ 1 ≤ g ∧ g ≤ hi
theorem whole_no {i lo hi : Int} (h : i < lo ∨ hi < i) : wholeV (.int i) lo hi = false := by
  show (decide (lo ≤ i) && decide (i ≤ hi)) = false
  rcases h with h | h
  · rw [decide_eq_false (by omega)]; rfl
  · rw [decide_eq_false (show ¬ i ≤ hi by omega), Bool.and_false]
theorem ne_p {p q : Addr} (h : q ≠ p) : V.ref q ≠ .ref p := fun z => h (V.ref.inj z)
section
variable {P : Program} {w : World} {K : PySem.W.Frag} {mg : Str → Option Value} {base : Heap}
theorem ok_law_counts (T : Txt K mg) : FnOk P w K mg base CX0 2 T.a_law_counts T.d_law_counts ["_law_source_here", "_law_door", "_law_kind"] (spCounts K) := by
  refine T.F_law_counts.ok sc_law_counts (fun vs H Q E h => ?_) (fun cdv A outer s₀ H vs Q E hr h => ?_)
  · obtain ⟨p, n, door, kd, rfl, _⟩ := h
    rfl
  · obtain ⟨p, n, door, kd, rfl, S, hn, q⟩ := h
    refine ⟨_, (pss_cons (ps_set (i := 3) sc_law_counts.nd rfl (Or.inl rfl) (pe_lst (pa_cons pe_int (pa_cons pe_int (pa_cons pe_int (pa_cons pe_int (pa_cons (pe_op op_pow pe_int pe_int) pa_nil)))))))
      (pss_cons (ps_set (i := 4) sc_law_counts.nd rfl (Or.inl rfl) (pe_lst (pa_cons pe_int (pa_cons (pe_un un_neg pe_int) (pa_cons pe_bl (pa_cons pe_non (pa_cons pe_str (pa_cons (pe_tup (pa_cons pe_int pa_nil)) (pa_cons (pe_op op_add (pe_op op_pow pe_int pe_int) pe_int) (pa_cons (pe_op op_pow pe_int pe_int) pa_nil))))))))))
      (pss_cons (ps_if (PW.pt (pw_and (pt_cmpR op_gt (pv 1) pe_int (nomark _)) (pw_and1 (pt_cmpR op_eq (pv 2) pe_str (nomark _)))))
      (pss_cons (ps_set (i := 3) sc_law_counts.nd rfl (Or.inl rfl) (pe_lst (pa_cons pe_int (pa_cons pe_int (pa_cons pe_int (pa_cons pe_int (pa_cons pe_int pa_nil)))))))
      (pss_one (ps_set (i := 4) sc_law_counts.nd rfl (Or.inl rfl) (pe_lst (pa_cons pe_int (pa_cons (pe_un un_neg pe_int) (pa_cons pe_bl (pa_cons pe_non (pa_cons (pe_lst (pa_cons pe_int pa_nil)) (pa_cons (pe_tup (pa_cons pe_int pa_nil)) (pa_cons pe_int (pa_cons (pe_op op_add (pe_op op_pow pe_int pe_int) pe_int) pa_nil))))))))))))
      pss_nil)
      (pss_one (ps_ret (pe_lst (pa_cons (pe_ix ix_list (pv 3) (pe_call (ok_law_draw T) (hr.mono (by decide)) rfl T.g_law_draw T.F_law_draw.kp T.b_law_draw .nil pass0 (pa_cons (pv 0) (pa_cons pe_int pa_nil))) (fun _ _ => rfl)) (pa_cons (pe_ix ix_list (pv 4) (pe_call (ok_law_draw T) (hr.mono (by decide)) rfl T.g_law_draw T.F_law_draw.kp T.b_law_draw .nil pass0 (pa_cons (pv 0) (pa_cons pe_int pa_nil))) (fun _ _ => rfl)) pa_nil)))))))), ?_⟩
    -- the two lists, kept: at u the good ones, at v the wrong ones
    have rest : ∀ (m : Int) (u v : Addr) (xs ys : List V) (H1 : Hp), m = mostD door (.str kd) → Same H H1 → u ≠ p → v ≠ p → H1 u = some (.lst xs) → H1 v = some (.lst ys) → xs.length = 5 → ys.length = 8 → (∀ x ∈ xs, GoodI m x) → (∀ y ∈ ys, Wrong K p H1 1 m y) →
        tRet (tLst (tCons (tOp (rIxL K) (tVar 3) (tCall spDraw [] E0 (tCons (tVar 0) (tCons (tC (.int 5)) tNil)))) (tCons (tOp (rIxL K) (tVar 4) (tCall spDraw [] E0 (tCons (tVar 0) (tCons (tC (.int 8)) tNil)))) tNil))) { nx := fun _ H' => Q .non H', rt := Q }
          [some (.ref p), some (.int door), some (.str kd), some (.ref u), some (.ref v)] H1 := by
      rintro m u v xs ys H1 rfl sm up vp hu hv lx ly gx gy
      refine ⟨_, rfl, _, rfl, p, n, 5, rfl, S.same sm, by omega, by decide, by decide, fun d H2 d0 d1 S2 B2 => ?_⟩
      obtain ⟨x, ex, g, rfl, g1, g2⟩ := bads_at d0 (by rw [lx]; exact d1) gx
      refine ⟨u, _, d, _, rfl, rfl, SqL.of (B2 _ _ up hu), ex, ?_⟩
      refine ⟨_, rfl, _, rfl, p, n + 1, 8, rfl, S2, by omega, by decide, by decide, fun d' H3 d0' d1' S3 B3 => ?_⟩
      obtain ⟨y, ey, wy⟩ := bads_at d0' (by rw [ly]; exact d1') gy
      refine ⟨v, _, d', _, rfl, rfl, SqL.of (B3 _ _ vp (B2 _ _ vp hv)), ey, ?_⟩
      refine ⟨(by show 2 ≤ sizeLine; decide), fun r hr => ?_⟩
      have B13 : But p H H3 := (Same.but sm).trans (B2.trans B3)
      have rp : r ≠ p := src_ne S3 hr
      refine q r _ g y ?_ (S3.same (same_upd hr)) (B13.same (same_upd hr)) rp upd_same ((wy.1.but (B2.trans B3)).same (same_upd hr)) g1 g2 wy.2
      cases e : H r with
      | none => rfl
      | some o => exact absurd (B13 r o rp e) (by rw [hr]; exact fun z => nomatch z)
    refine ⟨_, _, rfl, rfl, ⟨by decide, by decide, by decide⟩, (by show 5 ≤ sizeLine; decide), fun u hu => ?_⟩
    have s1 := same_upd (o := .lst [.int 1, .int 2, .int 1000, .int 1001, .int (10 ^ (20 : Int).toNat)]) hu
    have up : u ≠ p := src_ne S hu
    refine ⟨_, rfl, (by show 1 ≤ sizeLine; decide), fun t ht => ?_⟩
    have tp : t ≠ p := src_ne (S.same s1) ht
    have s2 := s1.trans (same_upd (o := .tup [.int 2]) ht)
    refine ⟨_, _, rfl, rfl, ⟨by decide, by decide, by decide⟩, _, _, rfl, rfl, _, _, rfl, rfl, ⟨by decide, by decide, by decide⟩, (by show 8 ≤ sizeLine; decide), fun v hv => ?_⟩
    have vp : v ≠ p := src_ne (S.same s2) hv
    have s3 := s2.trans (same_upd (o := .lst [.int 0, .int (-2), .bl true, .non, .str "2", .ref t, .int (10 ^ (20 : Int).toNat + 1), .int (10 ^ (30 : Int).toNat)]) hv)
    have eu := (same_upd (o := .lst [.int 0, .int (-2), .bl true, .non, .str "2", .ref t, .int (10 ^ (20 : Int).toNat + 1), .int (10 ^ (30 : Int).toNat)]) hv) _ _ (same_upd (o := .tup [.int 2]) ht _ _ (upd_same (H := H) (a := u) (o := .lst [.int 1, .int 2, .int 1000, .int 1001, .int (10 ^ (20 : Int).toNat)])))
    have et := (same_upd (o := .lst [.int 0, .int (-2), .bl true, .non, .str "2", .ref t, .int (10 ^ (20 : Int).toNat + 1), .int (10 ^ (30 : Int).toNat)]) hv) t _ upd_same
    have plain : ¬ (0 < door ∧ V.str kd = .str "ranges") → tRet (tLst (tCons (tOp (rIxL K) (tVar 3) (tCall spDraw [] E0 (tCons (tVar 0) (tCons (tC (.int 5)) tNil)))) (tCons (tOp (rIxL K) (tVar 4) (tCall spDraw [] E0 (tCons (tVar 0) (tCons (tC (.int 8)) tNil)))) tNil))) { nx := fun _ H' => Q .non H', rt := Q }
          [some (.ref p), some (.int door), some (.str kd), some (.ref u), some (.ref v)] _ := fun hne => by
      have em : mostD door (.str kd) = 10 ^ 20 := if_neg hne
      refine rest (10 ^ 20) u v _ _ _ em.symm s3 up vp eu upd_same rfl rfl (all5 ⟨_, rfl, by decide, by decide⟩ ⟨_, rfl, by decide, by decide⟩ ⟨_, rfl, by decide, by decide⟩ ⟨_, rfl, by decide, by decide⟩ ⟨_, rfl, by decide, by decide⟩)
        (all8 ⟨.int _, by decide +kernel⟩ ⟨.int _, by decide +kernel⟩ ⟨.bl _, rfl⟩ ⟨.non, rfl⟩ ⟨.str _, rfl⟩ ⟨⟨⟨_, .tup et⟩, ne_p tp⟩, rfl⟩ ⟨.int _, by decide +kernel⟩ ⟨.int _, by decide +kernel⟩)
    refine ⟨_, rfl, _, _, rfl, rfl, _, rfl, ite2 (fun e => ?_) (fun e => ?_)⟩
    · refine ⟨_, rfl, rfl, _, rfl, ite2 (fun e' => ?_) (fun e' => ?_)⟩
      · have em : mostD door (.str kd) = 1000 := if_pos ⟨of_decide_eq_true e, of_decide_eq_true e'⟩
        refine ⟨(by show 5 ≤ sizeLine; decide), fun u' hu' => ?_⟩
        have up' : u' ≠ p := src_ne (S.same s3) hu'
        have s4 := s3.trans (same_upd (o := .lst [.int 1, .int 2, .int 5, .int 999, .int 1000]) hu')
        refine ⟨_, rfl, (by show 1 ≤ sizeLine; decide), fun l hl => ?_⟩
        have lp : l ≠ p := src_ne (S.same s4) hl
        have s5 := s4.trans (same_upd (o := .lst [.int 2]) hl)
        refine ⟨(by show 1 ≤ sizeLine; decide), fun t' ht' => ?_⟩
        have tp' : t' ≠ p := src_ne (S.same s5) ht'
        have s6 := s5.trans (same_upd (o := .tup [.int 2]) ht')
        refine ⟨_, _, rfl, rfl, ⟨by decide, by decide, by decide⟩, _, _, rfl, rfl, (by show 8 ≤ sizeLine; decide), fun v' hv' => ?_⟩
        have vp' : v' ≠ p := src_ne (S.same s6) hv'
        have k7 := same_upd (o := .lst [.int 0, .int (-2), .bl true, .non, .ref l, .ref t', .int 1001, .int (10 ^ (20 : Int).toNat + 1)]) hv'
        have s7 := s6.trans k7
        have k6 := same_upd (o := .tup [.int 2]) ht'
        have k5 := same_upd (o := .lst [.int 2]) hl
        have eu' := k7 _ _ (k6 _ _ (k5 u' _ upd_same))
        have el' := k7 _ _ (k6 l _ upd_same)
        have et' := k7 t' _ upd_same
        exact rest 1000 u' v' _ _ _ em.symm s7 up' vp' eu' upd_same rfl rfl (all5 ⟨_, rfl, by decide, by decide⟩ ⟨_, rfl, by decide, by decide⟩ ⟨_, rfl, by decide, by decide⟩ ⟨_, rfl, by decide, by decide⟩ ⟨_, rfl, by decide, by decide⟩)
          (all8 ⟨.int _, by decide +kernel⟩ ⟨.int _, by decide +kernel⟩ ⟨.bl _, rfl⟩ ⟨.non, rfl⟩ ⟨⟨⟨_, .lst el'⟩, ne_p lp⟩, rfl⟩ ⟨⟨⟨_, .tup et'⟩, ne_p tp'⟩, rfl⟩ ⟨.int _, by decide +kernel⟩ ⟨.int _, by decide +kernel⟩)
      · exact plain fun z => e' (decide_eq_true z.2)
    · exact plain fun z => e (decide_eq_true z.1)
end

/-! ### what is due -/
theorem asg_step {v : V} {i : Nat} {u : TS} {D : Ends} {σ : L2.St} {H : Hp} (h : u D (σ.set i (some v)) H) : tSeq (tAsg (tC v) (gName i)) u D σ H := h
theorem if_false_of' {c : Bool} {A B : Prop} (h : c = false) (b : B) : if c = true then A else B := by rw [if_neg (by rw [h]; decide)]; exact b
theorem if_true_of' {c : Bool} {A B : Prop} (h : c = true) (a : A) : if c = true then A else B := by rw [if_pos h]; exact a
theorem not_true_of {b : Bool} (h : b = true) : (!b) = false := by rw [h]; rfl
theorem _root_.Lc.Src.store {H : Hp} {a r : Addr} {n : Nat} {o : HO} {k : Str} {y : List V} (S : Src H a n) (h : H r = some (.lst (.str k :: y))) (ne : r ≠ a) : Src (upd H r o) a n := by
  obtain ⟨l, ns, x, y', z, e1, e2, e3⟩ := S.ex
  refine ⟨l, ns, x, y', z, by rw [upd_ne ne.symm]; exact e1, ?_, e3⟩
  rw [upd_ne]
  · exact e2
  · intro e; subst e
    rw [h] at e2
    have q := HO.lst.inj (Option.some.inj e2)
    cases ns with
    | nil => exact nomatch q
    | cons i r => exact nomatch (List.cons.inj q).1
theorem Hand.store {K : PySem.W.Frag} {p r : Addr} {H : Hp} {v : V} {o : HO} (h : Hand K p H v) (ne : v ≠ .ref r) : Hand K p (upd H r o) v := by
  obtain ⟨⟨n, hn⟩, np⟩ := h
  exact ⟨⟨n, arg_but (p := r) hn ne (But.refl _ _).upd⟩, np⟩
/-- what stands beside the row -/
def Beside (K : PySem.W.Frag) (p o1 o2 pl : Addr) (g1 t si door : Int) (kd : Str) (ws w1 w2 : V) (H' : Hp) : Prop := Src H' p 20 ∧ H' o1 = some (.lst [.int g1, w1]) ∧ H' o2 = some (.lst [.int t, w2]) ∧
  H' pl = some (.lst [.str kd, .int g1, .int (if door = 0 then si - 1 else t), .int si]) ∧ Hand K p H' ws ∧ Hand K p H' w1 ∧ Hand K p H' w2
theorem Beside.same {K : PySem.W.Frag} {p o1 o2 pl : Addr} {g1 t si door : Int} {kd : Str} {ws w1 w2 : V} {H H' : Hp} (h : Beside K p o1 o2 pl g1 t si door kd ws w1 w2 H) (k : Same H H') : Beside K p o1 o2 pl g1 t si door kd ws w1 w2 H' := by
  obtain ⟨S, q1, q2, q3, q4, q5, q6⟩ := h
  exact ⟨S.same k, k _ _ q1, k _ _ q2, k _ _ q3, q4.same k, q5.same k, q6.same k⟩
theorem lane_bad_k {k b a s : V} (h : kindV k = false) : laneOf k b a s = .error "BadKind" := by unfold laneOf; rw [if_pos h]
theorem chk_bad_k {k b a s : V} (h : kindV k = false) : chkM k b a s = some "BadKind" := by unfold chkM; rw [if_pos h]
theorem ask_k {door : Int} {k b a s : V} (h : kindV k = false) : askR door k b a s = some "BadKind" := by
  unfold askR; rw [lane_bad_k h, chk_bad_k h]; split <;> rfl
theorem most_door {door : Int} {kd : Str} (hd : door = 0 → mostD door (.str kd) = 10 ^ 20) (hk : kindV (.str kd) = true) (h1 : 0 ≤ door) (h0 : ¬ door = 0) : mostOf (.str kd) = mostD door (.str kd) := by
  rcases most_cases hk with ⟨e, e2⟩ | ⟨e, _, e2⟩
  · rw [e2]; unfold mostD; rw [if_neg]; intro z; rw [e] at z; exact absurd z.2 (by decide)
  · rw [e2]; unfold mostD; rw [if_pos ⟨by omega, e⟩]
theorem mostD0 {kd : V} : mostD 0 kd = 10 ^ 20 := if_neg (by omega)
theorem ask_b {door : Int} {kd : Str} {b a s : V} (d0 : 0 ≤ door) (hk : kindV (.str kd) = true) (h : wholeV b 1 (mostD door (.str kd)) = false) : askR door (.str kd) b a s = some "BadCount" := by
  have nk : ¬ kindV (.str kd) = false := by rw [hk]; decide
  unfold askR
  by_cases e : door = 0
  · subst e
    rw [mostD0] at h
    rw [if_pos rfl]
    unfold laneOf
    rw [if_neg nk, if_pos h]
  · rw [if_neg e]
    unfold chkM
    rw [most_door (fun z => absurd z e) hk d0 e, if_neg nk, if_pos h]
/-- what the third argument may be at most, at least -/
def thirdOk (door : Int) (kd : V) (v : V) : Bool := if door = 0 then wholeV v 0 (10 ^ 40) else wholeV v 1 (mostD door kd)
theorem ask_a {door : Int} {kd : Str} {b a s : V} (d0 : 0 ≤ door) (hk : kindV (.str kd) = true) (hb : wholeV b 1 (mostD door (.str kd)) = true) (h : thirdOk door (.str kd) a = false) : askR door (.str kd) b a s = some (if door = 0 then "BadMark" else "BadCount") := by
  have nk : ¬ kindV (.str kd) = false := by rw [hk]; decide
  unfold askR
  unfold thirdOk at h
  by_cases e : door = 0
  · subst e
    rw [mostD0] at hb
    rw [if_pos rfl] at h ⊢
    unfold laneOf
    rw [if_neg nk, if_neg (by rw [hb]; decide), if_pos h]; rfl
  · rw [if_neg e] at h ⊢
    unfold chkM
    rw [most_door (fun z => absurd z e) hk d0 e, if_neg nk, if_neg (by rw [hb]; decide), if_pos h, if_neg e]
theorem ask_s {door : Int} {kd : Str} {b a s : V} (d0 : 0 ≤ door) (hk : kindV (.str kd) = true) (hb : wholeV b 1 (mostD door (.str kd)) = true) (ha : thirdOk door (.str kd) a = true) (h : wholeV s 1 (10 ^ 40) = false) : askR door (.str kd) b a s = some "BadSize" := by
  have nk : ¬ kindV (.str kd) = false := by rw [hk]; decide
  unfold askR
  unfold thirdOk at ha
  by_cases e : door = 0
  · subst e
    rw [mostD0] at hb
    rw [if_pos rfl] at ha ⊢
    unfold laneOf
    rw [if_neg nk, if_neg (by rw [hb]; decide), if_neg (by rw [ha]; decide), if_pos h]
  · rw [if_neg e] at ha ⊢
    unfold chkM
    rw [most_door (fun z => absurd z e) hk d0 e, if_neg nk, if_neg (by rw [hb]; decide), if_neg (by rw [ha]; decide), if_pos h]
theorem ask_ok {door : Int} {kd : Str} {b a s : Int} (d0 : 0 ≤ door) (hk : kindV (.str kd) = true) (hb : wholeV (.int b) 1 (mostD door (.str kd)) = true) (ha : thirdOk door (.str kd) (.int a) = true) (hs : wholeV (.int s) 1 (10 ^ 40) = true) :
    askR door (.str kd) (.int b) (.int a) (.int s) = if door = 0 ∧ s ≤ a then some "BadMark" else none := by
  have nk : ¬ kindV (.str kd) = false := by rw [hk]; decide
  unfold askR
  unfold thirdOk at ha
  by_cases e : door = 0
  · subst e
    rw [mostD0] at hb
    rw [if_pos rfl] at ha ⊢
    unfold laneOf
    rw [if_neg nk, if_neg (by rw [hb]; decide), if_neg (by rw [ha]; decide), if_neg (by rw [hs]; decide)]
    by_cases z : s ≤ a
    · rw [if_pos ⟨rfl, z⟩]; dsimp only; rw [if_pos z]
    · rw [if_neg (fun y => z y.2)]; dsimp only; rw [if_neg z]
  · rw [if_neg e] at ha ⊢
    unfold chkM
    rw [most_door (fun z => absurd z e) hk d0 e, if_neg nk, if_neg (by rw [hb]; decide), if_neg (by rw [ha]; decide), if_neg (by rw [hs]; decide), if_neg (fun y => e y.1)]
section
variable {P : Program} {w : World} {K : PySem.W.Frag} {mg : Str → Option Value} {base : Heap}
theorem ok_law (T : Txt K mg) : FnOk P w K mg base CX0 7 T.a_law T.d_law ["_law_script"] (spLaw K) := by
  refine T.F_law.ok sc_law (fun vs H Q E h => ?_) (fun cdv A outer s₀ H vs Q E hr h => ?_)
  · obtain ⟨a, ns, rfl, _⟩ := h
    rfl
  · obtain ⟨x, ns, rfl, hS, hlen, hb, q⟩ := h
    refine ⟨_, (pss_cons (ps_set (i := 1) sc_law.nd rfl (Or.inl rfl) (pe_call (ok_law_source T) (hr.mono (by decide)) rfl T.g_law_source T.F_law_source.kp T.b_law_source .nil pass0 (pa_cons (pv 0) pa_nil)))
      (pss_cons (ps_set (i := 2) sc_law.nd rfl (Or.inl rfl) (pe_call (ok_law_draw T) (hr.mono (by decide)) rfl T.g_law_draw T.F_law_draw.kp T.b_law_draw .nil pass0 (pa_cons (pv 1) (pa_cons pe_int pa_nil))))
      (pss_cons (ps_set (i := 3) sc_law.nd rfl (Or.inl rfl) (pe_call (ok_law_draw T) (hr.mono (by decide)) rfl T.g_law_draw T.F_law_draw.kp T.b_law_draw .nil pass0 (pa_cons (pv 1) (pa_cons pe_int pa_nil))))
      (pss_cons (ps_set (i := 4) sc_law.nd rfl (Or.inl rfl) (pe_ix ix_list (pe_lst (pa_cons pe_str (pa_cons pe_str pa_nil))) (pe_call (ok_law_draw T) (hr.mono (by decide)) rfl T.g_law_draw T.F_law_draw.kp T.b_law_draw .nil pass0 (pa_cons (pv 1) (pa_cons pe_int pa_nil))) (fun _ _ => rfl)))
      (pss_cons (ps_set (i := 5) sc_law.nd rfl (Or.inl rfl) (pe_ix ix_list (pe_lst (pa_cons pe_int (pa_cons pe_int (pa_cons pe_int (pa_cons (pe_op op_pow pe_int pe_int) pa_nil))))) (pe_call (ok_law_draw T) (hr.mono (by decide)) rfl T.g_law_draw T.F_law_draw.kp T.b_law_draw .nil pass0 (pa_cons (pv 1) (pa_cons pe_int pa_nil))) (fun _ _ => rfl)))
      (pss_cons (ps_set (i := 6) sc_law.nd rfl (Or.inl rfl) (pe_ix ix_list (pe_lst (pa_cons pe_int (pa_cons (pe_un un_neg pe_int) (pa_cons (pe_op op_add (pe_op op_pow pe_int pe_int) pe_int) (pa_cons pe_bl (pa_cons pe_non (pa_cons pe_str (pa_cons (pe_lst (pa_cons pe_int pa_nil)) pa_nil)))))))) (pe_call (ok_law_draw T) (hr.mono (by decide)) rfl T.g_law_draw T.F_law_draw.kp T.b_law_draw .nil pass0 (pa_cons (pv 1) (pa_cons pe_int pa_nil))) (fun _ _ => rfl)))
      (pss_cons (ps_set (i := 7) sc_law.nd rfl (Or.inl rfl) (pe_call (ok_law_counts T) (hr.mono (by decide)) rfl T.g_law_counts T.F_law_counts.kp T.b_law_counts .nil pass0 (pa_cons (pv 1) (pa_cons (pv 3) (pa_cons (pv 4) pa_nil)))))
      (pss_cons (ps_set (i := 8) sc_law.nd rfl (Or.inl rfl) (pe_call (ok_law_counts T) (hr.mono (by decide)) rfl T.g_law_counts T.F_law_counts.kp T.b_law_counts .nil pass0 (pa_cons (pv 1) (pa_cons (pv 3) (pa_cons (pv 4) pa_nil)))))
      (pss_cons (ps_if (pt_cmpR op_eq (pv 3) pe_int (nomark _))
      (pss_one (ps_set (i := 8) sc_law.nd rfl (Or.inl rfl) (pe_lst (pa_cons (pe_op op_add (pe_op op_sub (pv 5) pe_int) (pe_call (ok_law_draw T) (hr.mono (by decide)) rfl T.g_law_draw T.F_law_draw.kp T.b_law_draw .nil pass0 (pa_cons (pv 1) (pa_cons pe_int pa_nil)))) (pa_cons (pe_ix ix_list (pe_lst (pa_cons (pe_un un_neg pe_int) (pa_cons (pe_op op_add (pe_op op_pow pe_int pe_int) pe_int) (pa_cons pe_bl (pa_cons pe_non (pa_cons pe_str (pa_cons (pe_lst (pa_cons pe_int pa_nil)) pa_nil))))))) (pe_call (ok_law_draw T) (hr.mono (by decide)) rfl T.g_law_draw T.F_law_draw.kp T.b_law_draw .nil pass0 (pa_cons (pv 1) (pa_cons pe_int pa_nil))) (fun _ _ => rfl)) pa_nil)))))
      pss_nil)
      (pss_cons (ps_set (i := 9) sc_law.nd rfl (Or.inl rfl) (pe_lst (pa_cons (pv 4) (pa_cons (pe_ix ix_list (pv 7) pe_int (fun _ _ => rfl)) (pa_cons (pe_ix ix_list (pe_lst (pa_cons (pe_ix ix_list (pv 8) pe_int (fun _ _ => rfl)) (pa_cons (pe_op op_sub (pv 5) pe_int) pa_nil))) (pe_callTy call_int1 (by rfl) T.z_int (by decide +kernel) (pa_cons (pe_cmpR op_eq (pv 3) pe_int (nomark _)) pa_nil)) (fun _ _ => rfl)) (pa_cons (pv 5) pa_nil))))))
      (pss_cons (ps_if (pt_cmpR op_ne (pe_call (ok_law_told T) (hr.mono (by decide)) rfl T.g_law_told T.F_law_told.kp T.b_law_told .nil pass0 (pa_cons (pv 3) (pa_cons (pv 9) pa_nil))) pe_str (nomark _))
      (pss_one (ps_ret pe_bl))
      pss_nil)
      (pss_cons (ps_set (i := 10) sc_law.nd rfl (Or.inl rfl) (pe_lst (pa_cons (pv 4) (pa_cons (pe_ix ix_list (pv 7) pe_int (fun _ _ => rfl)) (pa_cons (pe_ix ix_list (pv 8) pe_int (fun _ _ => rfl)) (pa_cons (pv 5) pa_nil))))))
      (pss_cons (ps_set (i := 11) sc_law.nd rfl (Or.inl rfl) pe_str)
      (pss_cons (ps_if (PW.pt (pw_and (pt_cmpR op_eq (pv 3) pe_int (nomark _)) (pw_and1 (pt_cmpR op_ge (pe_ix ix_list (pv 8) pe_int (fun _ _ => rfl)) (pv 5) (nomark _)))))
      (pss_one (ps_set (i := 11) sc_law.nd rfl (Or.inl rfl) pe_str))
      pss_nil)
      (pss_cons (ps_if (pt_cmpR op_eq (pe_op op_fdivW (pv 2) pe_int) pe_int (nomark _))
      (pss_cons (ps_asg (pv 6) (pg_sub (pv 10) pe_int set_list))
      (pss_one (ps_set (i := 11) sc_law.nd rfl (Or.inl rfl) pe_str)))
      pss_nil)
      (pss_cons (ps_if (pt_cmpR op_eq (pe_op op_mod (pe_op op_fdivW (pv 2) pe_int) pe_int) pe_int (nomark _))
      (pss_cons (ps_asg (pe_ix ix_list (pv 8) pe_int (fun _ _ => rfl)) (pg_sub (pv 10) pe_int set_list))
      (pss_one (ps_set (i := 11) sc_law.nd rfl (Or.inl rfl) (pe_ix ix_list (pe_lst (pa_cons pe_str (pa_cons pe_str (pa_cons pe_str pa_nil)))) (pv 3) (fun _ _ => rfl)))))
      pss_nil)
      (pss_cons (ps_if (pt_cmpR op_eq (pe_op op_mod (pe_op op_fdivW (pv 2) pe_int) pe_int) pe_int (nomark _))
      (pss_cons (ps_asg (pe_ix ix_list (pv 7) pe_int (fun _ _ => rfl)) (pg_sub (pv 10) pe_int set_list))
      (pss_one (ps_set (i := 11) sc_law.nd rfl (Or.inl rfl) pe_str)))
      pss_nil)
      (pss_cons (ps_if (pt_cmpR op_eq (pe_op op_mod (pv 2) pe_int) pe_int (nomark _))
      (pss_cons (ps_asg (pe_ix ix_list (pe_lst (pa_cons pe_non (pa_cons pe_str (pa_cons pe_str (pa_cons pe_str (pa_cons pe_str (pa_cons pe_int (pa_cons pe_bl (pa_cons (pe_tup (pa_cons pe_str pa_nil)) (pa_cons (pe_lst (pa_cons pe_str pa_nil)) pa_nil)))))))))) (pe_call (ok_law_draw T) (hr.mono (by decide)) rfl T.g_law_draw T.F_law_draw.kp T.b_law_draw .nil pass0 (pa_cons (pv 1) (pa_cons pe_int pa_nil))) (fun _ _ => rfl)) (pg_sub (pv 10) pe_int set_list))
      (pss_one (ps_set (i := 11) sc_law.nd rfl (Or.inl rfl) pe_str)))
      pss_nil)
      (pss_cons (ps_if (PW.pt (pw_or (pt_cmpR op_ne (pe_call (ok_law_told T) (hr.mono (by decide)) rfl T.g_law_told T.F_law_told.kp T.b_law_told .nil pass0 (pa_cons (pv 3) (pa_cons (pv 10) pa_nil))) (pv 11) (nomark _)) (pw_or1 (pt_cmpR op_ne (pe_call (ok_law_base T) (hr.mono (by decide)) rfl T.g_law_base T.F_law_base.kp T.b_law_base .nil pass0 (pa_cons (pv 3) (pa_cons (pv 10) pa_nil))) (pe_cmpR op_ne (pv 11) pe_str (nomark _)) (nomark _)))))
      (pss_one (ps_ret pe_bl))
      pss_nil)
      (pss_one (ps_ret (pe_and (pe_cmpR op_eq (pe_call (ok_law_told T) (hr.mono (by decide)) rfl T.g_law_told T.F_law_told.kp T.b_law_told .nil pass0 (pa_cons (pv 3) (pa_cons (pv 9) pa_nil))) pe_str (nomark _)) (pe_one (pe_cmpR op_eq (pe_call (ok_law_told T) (hr.mono (by decide)) rfl T.g_law_told T.F_law_told.kp T.b_law_told .nil pass0 (pa_cons (pv 3) (pa_cons (pv 10) pa_nil))) (pv 11) (nomark _))))))))))))))))))))))))), ?_⟩
    refine ⟨.ref x, rfl, x, ns, rfl, hS, hlen, hb, fun p H1 hp S1 k1 => ?_⟩
    refine ⟨.ref p, rfl, p, 0, 16, rfl, S1, by decide, by decide, by decide, fun bad H2 b0 b1 S2 _ => ?_⟩
    refine ⟨.ref p, rfl, p, 1, 3, rfl, S2, by decide, by decide, by decide, fun door H3 d0 d1 S3 _ => ?_⟩
    -- the kind
    refine ⟨(by show 2 ≤ sizeLine; decide), fun t ht => ⟨.ref p, rfl, p, 2, 2, rfl, S3.same (same_upd ht), by decide, by decide, by decide, fun d H4 e0 e1 S4 B4 => ?_⟩⟩
    have hk2 : ∃ kd : Str, atI [V.str "rest", V.str "ranges"] d = some (.str kd) ∧ kindV (.str kd) = true := by
      rw [atI_two e0 e1]
      split
      · exact ⟨_, rfl, rfl⟩
      · exact ⟨_, rfl, rfl⟩
    obtain ⟨kd, ek, hk⟩ := hk2
    refine ⟨t, _, d, .str kd, rfl, rfl, SqL.of (B4 _ _ (src_ne S3 ht) upd_same), ek, ?_⟩
    clear B4 ek
    -- the size
    refine ⟨_, _, rfl, rfl, ⟨by decide, by decide, by decide⟩, (by show 4 ≤ sizeLine; decide), fun t ht => ⟨.ref p, rfl, p, 3, 4, rfl, S4.same (same_upd ht), by decide, by decide, by decide, fun d H5 e0 e1 S5 B5 => ?_⟩⟩
    obtain ⟨v, ev, si, rfl, s1, s2⟩ := bads_at (good := GoodI (10 ^ 40)) (xs := [V.int 1, .int 2, .int 30, .int (10 ^ (40 : Int).toNat)]) e0 e1 (by
      intro v hv
      simp only [List.mem_cons, List.not_mem_nil, or_false] at hv
      rcases hv with rfl | rfl | rfl | rfl <;> exact ⟨_, rfl, by decide, by decide⟩)
    refine ⟨t, _, d, .int si, rfl, rfl, SqL.of (B5 _ _ (src_ne S4 ht) upd_same), ev, ?_⟩
    clear B5 ev
    -- the wrong size
    refine ⟨_, rfl, _, _, rfl, rfl, ⟨by decide, by decide, by decide⟩, _, _, rfl, rfl, (by show 1 ≤ sizeLine; decide), fun l hl => ⟨(by show 7 ≤ sizeLine; decide), fun t ht => ?_⟩⟩
    have lp : l ≠ p := src_ne S5 hl
    have k5 := same_upd (o := .lst [.int 5]) hl
    have tp : t ≠ p := src_ne (S5.same k5) ht
    have k6 := same_upd (o := .lst [.int 0, .int (-5), .int (10 ^ (40 : Int).toNat + 1), .bl true, .non, .str "9", .ref l]) ht
    refine ⟨.ref p, rfl, p, 4, 7, rfl, (S5.same k5).same k6, by decide, by decide, by decide, fun d H6 e0 e1 S6 B6 => ?_⟩
    obtain ⟨ws, ew, hws⟩ := bads_at (good := Wrong K p H6 1 (10 ^ 40)) (xs := [V.int 0, .int (-5), .int (10 ^ (40 : Int).toNat + 1), .bl true, .non, .str "9", .ref l]) e0 e1
      (all7 ⟨.int _, by decide +kernel⟩ ⟨.int _, by decide +kernel⟩ ⟨.int _, by decide +kernel⟩ ⟨.bl _, rfl⟩ ⟨.non, rfl⟩ ⟨.str _, rfl⟩ ⟨⟨⟨_, .lst (B6 _ _ lp (k6 _ _ upd_same))⟩, ne_p lp⟩, rfl⟩)
    refine ⟨t, _, d, ws, rfl, rfl, SqL.of (B6 _ _ tp upd_same), ew, ?_⟩
    clear B6 ew
    -- the counts
    refine ⟨_, rfl, _, rfl, _, rfl, p, 5, door, kd, rfl, S6, by decide, fun o1 H7 g1 w1 f1 S7 B7 n1 h1 hw1 g11 g12 g13 => ?_⟩
    refine ⟨_, rfl, _, rfl, _, rfl, p, 7, door, kd, rfl, S7, by decide, fun o2 H8 g2 w2 f2 S8 B8 n2 h2 hw2 g21 g22 g23 => ?_⟩
    try dsimp only [gName]
    refine if_cut (fun σ' H' => ∃ (o2 : Addr) (t : Int) (w2 : V), σ' = [some (.ref x), some (.ref p), some (.int bad), some (.int door), some (.str kd), some (.int si), some ws, some (.ref o1), some (.ref o2), none, none, none] ∧
      Src H' p 20 ∧ o2 ≠ p ∧ H' o1 = some (.lst [.int g1, w1]) ∧ H' o2 = some (.lst [.int t, w2]) ∧ Hand K p H' ws ∧ Hand K p H' w1 ∧ Hand K p H' w2 ∧ thirdOk door (.str kd) w2 = false ∧ (door = 0 → t = si - 1 ∨ t = si) ∧ (¬ door = 0 → 1 ≤ t ∧ t ≤ mostD door (.str kd))) ?_ (fun K1 => ?_)
    rotate_left
    · refine ⟨_, rfl, rfl, _, rfl, ite2 (fun e => ?_) (fun e => ?_)⟩
      · have e0 : door = 0 := V.int.inj (of_decide_eq_true e)
        refine ⟨_, rfl, _, _, rfl, rfl, .ref p, rfl, p, 9, 2, rfl, S8, by decide, by decide, by decide, fun d H9 c0 c1 S9 B9 => ⟨_, _, rfl, rfl, ?_⟩⟩
        refine ⟨_, rfl, _, _, rfl, rfl, ⟨by decide, by decide, by decide⟩, _, _, rfl, rfl, (by show 1 ≤ sizeLine; decide), fun l hl => ⟨(by show 6 ≤ sizeLine; decide), fun t ht => ?_⟩⟩
        have lp : l ≠ p := src_ne S9 hl
        have k9 := same_upd (o := .lst [.int 0]) hl
        have tp : t ≠ p := src_ne (S9.same k9) ht
        have k10 := same_upd (o := .lst [.int (-1), .int (10 ^ (40 : Int).toNat + 1), .bl false, .non, .str "0", .ref l]) ht
        refine ⟨.ref p, rfl, p, 10, 6, rfl, (S9.same k9).same k10, by decide, by decide, by decide, fun d' H11 c0' c1' S11 B11 => ?_⟩
        obtain ⟨wm, ew, hwm⟩ := bads_at (good := Wrong K p H11 0 (10 ^ 40)) (xs := [V.int (-1), .int (10 ^ (40 : Int).toNat + 1), .bl false, .non, .str "0", .ref l]) c0' c1'
          (all6 ⟨.int _, by decide +kernel⟩ ⟨.int _, by decide +kernel⟩ ⟨.bl _, rfl⟩ ⟨.non, rfl⟩ ⟨.str _, rfl⟩ ⟨⟨⟨_, .lst (B11 _ _ lp (k10 _ _ upd_same))⟩, ne_p lp⟩, rfl⟩)
        refine ⟨t, _, d', wm, rfl, rfl, SqL.of (B11 _ _ tp upd_same), ew, ?_⟩
        refine ⟨(by show 2 ≤ sizeLine; decide), fun o3 h3 => ?_⟩
        have B12 : But p H8 H11 := B9.trans ((Same.but k9).trans ((Same.but k10).trans B11))
        have k12 := same_upd (o := .lst [.int (si - 1 + d), wm]) h3
        refine K1 _ _ ⟨o3, si - 1 + d, wm, rfl, (S11.same k12).le (by decide), src_ne S11 h3, k12 _ _ (B12 _ _ n1 (B8 _ _ n1 h1)), upd_same, ((hws.1.but B7).but (B8.trans B12)).same k12, (hw1.but (B8.trans B12)).same k12, hwm.1.same k12, ?_, fun _ => by omega, fun z => absurd e0 z⟩
        unfold thirdOk; rw [if_pos e0]; exact hwm.2
      · have e0 : ¬ door = 0 := fun z => e (decide_eq_true (congrArg V.int z))
        refine K1 _ _ ⟨o2, g2, w2, rfl, S8.le (by decide), n2, B8 _ _ n1 h1, h2, (hws.1.but B7).but B8, hw1.but B8, hw2, ?_, fun z => absurd z e0, fun _ => ⟨g21, g22⟩⟩
        unfold thirdOk; rw [if_neg e0]; exact g23
    clear h2 hw2 g21 g22 g23 n2 f2 B8 S8 S7 B7 h1 hw1 H8 f1
    rintro σ' H9 ⟨o2, t, w2, rfl, S9, n2, h1, h2, hws9, hw1, hw2, w2b, t0, tn⟩
    have hg1 : wholeV (.int g1) 1 (mostD door (.str kd)) = true := whole_of g11 g12
    have hsi : wholeV (.int si) 1 (10 ^ 40) = true := whole_of s1 s2
    have ht : thirdOk door (.str kd) (.int t) = true := by
      unfold thirdOk
      by_cases e : door = 0
      · rw [if_pos e]; rcases t0 e with rfl | rfl <;> exact whole_of (by omega) (by omega)
      · rw [if_neg e]; exact whole_of (tn e).1 (tn e).2
    -- plain
    refine ⟨_, rfl, _, rfl, o1, _, 0, .int g1, rfl, rfl, SqL.of h1, atI_nat (j := 0) rfl, ?_⟩
    refine ⟨_, rfl, o2, _, 0, .int t, rfl, rfl, SqL.of h2, atI_nat (j := 0) rfl, _, rfl, _, _, rfl, rfl, (by show 2 ≤ sizeLine; decide), fun l hl => ?_⟩
    have kl := same_upd (o := .lst [.int t, .int (si - 1)]) hl
    refine ⟨_, rfl, rfl, .inr ⟨_, rfl, l, _, _, .int (if door = 0 then si - 1 else t), rfl, rfl, SqL.of upd_same, ?_, _, rfl, (by show 4 ≤ sizeLine; decide), fun pl hpl => ?_⟩⟩
    · rw [dec_int]
      by_cases e : door = 0
      · rw [if_pos e, e]; rfl
      · rw [if_neg e, beq_eq_false_iff_ne.mpr e]; rfl
    have kp := same_upd (o := .lst [.str kd, .int g1, .int (if door = 0 then si - 1 else t), .int si]) hpl
    have kk := kl.trans kp
    have hpl0 : H9 pl = none := kl.free hpl
    have plp : pl ≠ p := src_ne (S9.same kl) hpl
    have eplain : askR door (.str kd) (.int g1) (.int (if door = 0 then si - 1 else t)) (.int si) = none := by
      rw [ask_ok d0 hk hg1 ?_ hsi]
      · by_cases e : door = 0
        · rw [if_pos e, if_neg (by omega)]
        · rw [if_neg e, if_neg (fun z => e z.1)]
      · by_cases e : door = 0
        · rw [if_pos e]; unfold thirdOk; rw [if_pos e]; exact whole_of (by omega) (by omega)
        · rw [if_neg e]; exact ht
    refine ⟨_, rfl, _, rfl, door, pl, _, _, _, _, rfl, upd_same, ⟨_, .str _⟩, ⟨_, .int _⟩, ⟨_, .int _⟩, ⟨_, .int _⟩, rfl, _, rfl, ?_⟩
    rw [eplain]
    refine if_false_of' (not_true_of (decide_eq_true rfl)) ?_
    -- row
    refine ⟨_, rfl, _, rfl, o1, _, 0, .int g1, rfl, rfl, SqL.of (kk _ _ h1), atI_nat (j := 0) rfl, _, rfl, o2, _, 0, .int t, rfl, rfl, SqL.of (kk _ _ h2), atI_nat (j := 0) rfl, _, rfl, (by show 4 ≤ sizeLine; decide), fun rw' hrw => ?_⟩
    have kr := same_upd (o := .lst [.str kd, .int g1, .int t, .int si]) hrw
    have ka := kk.trans kr
    have hrw0 : H9 rw' = none := kk.free hrw
    have rwp : rw' ≠ p := src_ne (S9.same kk) hrw
    have nrp : pl ≠ rw' := ne_of_none upd_same hrw
    have nro1 : o1 ≠ rw' := ne_of_none (kk _ _ h1) hrw
    have nro2 : o2 ≠ rw' := ne_of_none (kk _ _ h2) hrw
    -- what stands beside the row, all the way
    have nw : ∀ {v : V}, Hand K p H9 v → v ≠ .ref rw' := by
      intro v hv e
      obtain ⟨⟨n, hn⟩, _⟩ := hv
      subst e
      cases hn with
      | lst e => rw [hrw0] at e; cases e
      | tup e => rw [hrw0] at e; cases e
      | dK e => rw [hrw0] at e; cases e
    have nws := nw hws9
    have nw1 := nw hw1
    have nw2 := nw hw2
    have keep : ∀ {H' : Hp} {o : HO}, Beside K p o1 o2 pl g1 t si door kd ws w1 w2 H' → (∃ y, H' rw' = some (.lst (.str kd :: y))) → Beside K p o1 o2 pl g1 t si door kd ws w1 w2 (upd H' rw' o) := by
      rintro H' o ⟨S, q1, q2, q3, q4, q5, q6⟩ ⟨y, hy⟩
      refine ⟨S.store hy rwp, by rw [upd_ne nro1]; exact q1, by rw [upd_ne nro2]; exact q2, by rw [upd_ne nrp]; exact q3, q4.store nws, q5.store nw1, q6.store nw2⟩
    have F0 : Beside K p o1 o2 pl g1 t si door kd ws w1 w2 (upd (upd (upd H9 l (.lst [.int t, .int (si - 1)])) pl (.lst [.str kd, .int g1, .int (if door = 0 then si - 1 else t), .int si])) rw' (.lst [.str kd, .int g1, .int t, .int si])) :=
      ⟨S9.same ka, ka _ _ h1, ka _ _ h2, kr _ _ upd_same, hws9.same ka, hw1.same ka, hw2.same ka⟩
    -- due: none, or mark
    try dsimp only [gName]
    refine asg_step ?_
    refine if_cut (fun σ' H' => σ' = [some (.ref x), some (.ref p), some (.int bad), some (.int door), some (.str kd), some (.int si), some ws, some (.ref o1), some (.ref o2), some (.ref pl), some (.ref rw'), some (.str (toldS (askR door (.str kd) (.int g1) (.int t) (.int si))))] ∧
      H' rw' = some (.lst [.str kd, .int g1, .int t, .int si]) ∧ Beside K p o1 o2 pl g1 t si door kd ws w1 w2 H') ?_ (fun K1 => ?_)
    rotate_left
    · rw [ask_ok d0 hk hg1 ht hsi] at K1
      refine ⟨_, rfl, rfl, _, rfl, ite2 (fun e => ?_) (fun e => ?_)⟩
      · have e0 : door = 0 := V.int.inj (of_decide_eq_true e)
        refine ⟨_, rfl, o2, _, 0, .int t, rfl, rfl, SqL.of F0.2.2.1, atI_nat (j := 0) rfl, _, rfl, _, _, rfl, rfl, _, rfl, ite2 (fun e' => ?_) (fun e' => ?_)⟩
        · have e1 : si ≤ t := of_decide_eq_true e'
          rw [if_pos ⟨e0, e1⟩] at K1
          exact K1 _ _ ⟨rfl, upd_same, F0⟩
        · rw [if_neg (fun z => e' (decide_eq_true z.2))] at K1
          exact K1 _ _ ⟨rfl, upd_same, F0⟩
      · rw [if_neg (fun z => e (decide_eq_true (congrArg V.int z.1)))] at K1
        exact iteF (K1 _ _ ⟨rfl, upd_same, F0⟩)
    rintro σ' H10 ⟨rfl, hr10, F10⟩
    -- a wrong size
    refine if_cut (fun σ' H' => ∃ s' : V, σ' = [some (.ref x), some (.ref p), some (.int bad), some (.int door), some (.str kd), some (.int si), some ws, some (.ref o1), some (.ref o2), some (.ref pl), some (.ref rw'), some (.str (toldS (askR door (.str kd) (.int g1) (.int t) s')))] ∧
      H' rw' = some (.lst [.str kd, .int g1, .int t, s']) ∧ Beside K p o1 o2 pl g1 t si door kd ws w1 w2 H' ∧ Hand K p H' s' ∧ s' ≠ .ref rw') ?_ (fun K1 => ?_)
    rotate_left
    · refine ⟨_, rfl, _, _, rfl, rfl, ⟨by decide, by decide⟩, rfl, _, rfl, ite2 (fun e => ?_) (fun e => ?_)⟩
      · refine ⟨_, rfl, _, rfl, rw', _, 3, 3, rfl, rfl, hr10, rfl, ?_⟩
        have := K1 _ _ ⟨ws, rfl, upd_same, keep (o := .lst [.str kd, .int g1, .int t, ws]) F10 ⟨_, hr10⟩, F10.2.2.2.2.1.store nws, nws⟩
        rw [ask_s d0 hk hg1 ht hws.2] at this
        exact this
      · exact K1 _ _ ⟨.int si, rfl, hr10, F10, .int _, fun z => nomatch z⟩
    rintro σ' H11 ⟨s', rfl, hr11, F11, hs', ns'⟩
    -- a wrong third argument
    refine if_cut (fun σ' H' => ∃ a' : V, σ' = [some (.ref x), some (.ref p), some (.int bad), some (.int door), some (.str kd), some (.int si), some ws, some (.ref o1), some (.ref o2), some (.ref pl), some (.ref rw'), some (.str (toldS (askR door (.str kd) (.int g1) a' s')))] ∧
      H' rw' = some (.lst [.str kd, .int g1, a', s']) ∧ Beside K p o1 o2 pl g1 t si door kd ws w1 w2 H' ∧ Hand K p H' s' ∧ Hand K p H' a' ∧ a' ≠ .ref rw') ?_ (fun K1 => ?_)
    rotate_left
    · refine ⟨_, rfl, _, _, rfl, rfl, ⟨by decide, by decide⟩, _, _, rfl, rfl, (by show (0 : Int) < 2; decide), rfl, _, rfl, ite2 (fun e => ?_) (fun e => ?_)⟩
      · refine ⟨_, rfl, o2, _, 1, w2, rfl, rfl, SqL.of F11.2.2.1, atI_nat (j := 1) rfl, _, rfl, rw', _, 2, 2, rfl, rfl, hr11, rfl, ?_⟩
        refine ⟨(by show 3 ≤ sizeLine; decide), fun u hu => ⟨_, rfl, u, _, door, .str (if door = 0 then "mark" else "count"), rfl, rfl, SqL.of upd_same, ?_, ?_⟩⟩
        · rw [atI_three d0 d1]
          by_cases e0 : door = 0
          · rw [if_pos e0, if_pos e0]
          · rw [if_neg e0, if_neg e0]; split <;> rfl
        have ku := same_upd (o := .lst [.str "mark", .str "count", .str "count"]) hu
        have := K1 _ _ ⟨w2, rfl, ku _ _ upd_same, (keep (o := .lst [.str kd, .int g1, w2, s']) F11 ⟨_, hr11⟩).same ku, (hs'.store ns').same ku, (F11.2.2.2.2.2.2.store nw2).same ku, nw2⟩
        rw [ask_a d0 hk hg1 w2b] at this
        have en : toldS (some (if door = 0 then "BadMark" else "BadCount")) = (if door = 0 then ("mark" : Str) else "count") := by
          by_cases e0 : door = 0
          · rw [if_pos e0, if_pos e0]; rfl
          · rw [if_neg e0, if_neg e0]; rfl
        rw [en] at this
        exact this
      · exact K1 _ _ ⟨.int t, rfl, hr11, F11, hs', .int _, fun z => nomatch z⟩
    rintro σ' H12 ⟨a', rfl, hr12, F12, hs12, ha', na'⟩
    -- a wrong count
    refine if_cut (fun σ' H' => ∃ b' : V, σ' = [some (.ref x), some (.ref p), some (.int bad), some (.int door), some (.str kd), some (.int si), some ws, some (.ref o1), some (.ref o2), some (.ref pl), some (.ref rw'), some (.str (toldS (askR door (.str kd) b' a' s')))] ∧
      H' rw' = some (.lst [.str kd, b', a', s']) ∧ Beside K p o1 o2 pl g1 t si door kd ws w1 w2 H' ∧ Hand K p H' s' ∧ Hand K p H' a' ∧ Hand K p H' b' ∧ b' ≠ .ref rw') ?_ (fun K1 => ?_)
    rotate_left
    · refine ⟨_, rfl, _, _, rfl, rfl, ⟨by decide, by decide⟩, _, _, rfl, rfl, (by show (0 : Int) < 2; decide), rfl, _, rfl, ite2 (fun e => ?_) (fun e => ?_)⟩
      · refine ⟨_, rfl, o1, _, 1, w1, rfl, rfl, SqL.of F12.2.1, atI_nat (j := 1) rfl, _, rfl, rw', _, 1, 1, rfl, rfl, hr12, rfl, ?_⟩
        have := K1 _ _ ⟨w1, rfl, upd_same, keep (o := .lst [.str kd, w1, a', s']) F12 ⟨_, hr12⟩, hs12.store ns', ha'.store na', F12.2.2.2.2.2.1.store nw1, nw1⟩
        rw [ask_b d0 hk g13] at this
        exact this
      · exact K1 _ _ ⟨.int g1, rfl, hr12, F12, hs12, ha', .int _, fun z => nomatch z⟩
    rintro σ' H13 ⟨b', rfl, hr13, F13, hs13, ha13, hb', nb'⟩
    -- a wrong kind
    refine if_cut (fun σ' H' => ∃ k' : V, σ' = [some (.ref x), some (.ref p), some (.int bad), some (.int door), some (.str kd), some (.int si), some ws, some (.ref o1), some (.ref o2), some (.ref pl), some (.ref rw'), some (.str (toldS (askR door k' b' a' s')))] ∧
      H' rw' = some (.lst [k', b', a', s']) ∧ H' pl = some (.lst [.str kd, .int g1, .int (if door = 0 then si - 1 else t), .int si]) ∧ Hand K p H' s' ∧ Hand K p H' a' ∧ Hand K p H' b' ∧ Hand K p H' k') ?_ (fun K1 => ?_)
    rotate_left
    · refine ⟨_, rfl, _, _, rfl, rfl, (by show (0 : Int) < 2; decide), rfl, _, rfl, ite2 (fun e => ?_) (fun e => ?_)⟩
      · refine ⟨(by show 1 ≤ sizeLine; decide), fun u hu => ⟨(by show 1 ≤ sizeLine; decide), fun v hv => ⟨(by show 9 ≤ sizeLine; decide), fun m hm => ?_⟩⟩⟩
        have up : u ≠ p := src_ne F13.1 hu
        have ku := same_upd (o := .tup [.str "rest"]) hu
        have vp : v ≠ p := src_ne (F13.1.same ku) hv
        have kv := same_upd (o := .lst [.str "ranges"]) hv
        have mp : m ≠ p := src_ne ((F13.1.same ku).same kv) hm
        have km := same_upd (o := .lst [.non, .str "Rest", .str "range", .str "ranges ", .str "", .int 0, .bl true, .ref u, .ref v]) hm
        refine ⟨_, rfl, p, 20, 9, rfl, ((F13.1.same ku).same kv).same km, by decide, by decide, by decide, fun d H14 c0 c1 S14 B14 => ?_⟩
        have Bk : But p H13 H14 := (Same.but ku).trans ((Same.but kv).trans ((Same.but km).trans B14))
        obtain ⟨k', ek', hk'⟩ := bads_at (good := fun y => Hand K p H14 y ∧ kindV y = false ∧ y ≠ .ref rw') (xs := [V.non, .str "Rest", .str "range", .str "ranges ", .str "", .int 0, .bl true, .ref u, .ref v]) c0 c1
          (all9 ⟨.non, rfl, fun z => nomatch z⟩ ⟨.str _, by decide +kernel, fun z => nomatch z⟩ ⟨.str _, by decide +kernel, fun z => nomatch z⟩ ⟨.str _, by decide +kernel, fun z => nomatch z⟩ ⟨.str _, by decide +kernel, fun z => nomatch z⟩ ⟨.int _, rfl, fun z => nomatch z⟩ ⟨.bl _, rfl, fun z => nomatch z⟩
            ⟨⟨⟨_, .tup (B14 _ _ up (km _ _ (kv _ _ upd_same)))⟩, ne_p up⟩, rfl, fun z => (ne_of_none hr13 hu) (V.ref.inj z).symm⟩
            ⟨⟨⟨_, .lst (B14 _ _ vp (km _ _ upd_same))⟩, ne_p vp⟩, rfl, fun z => (ne_of_none (ku _ _ hr13) hv) (V.ref.inj z).symm⟩)
        have hr14 := Bk _ _ rwp hr13
        refine ⟨m, _, d, k', rfl, rfl, SqL.of (B14 _ _ mp upd_same), ek', _, rfl, rw', _, 0, 0, rfl, rfl, hr14, rfl, ?_⟩
        have := K1 _ _ ⟨k', rfl, upd_same, (by rw [upd_ne nrp]; exact Bk _ _ plp F13.2.2.2.1), (hs13.but Bk).store ns', (ha13.but Bk).store na', (hb'.but Bk).store nb', hk'.1.store hk'.2.2⟩
        rw [ask_k hk'.2.1] at this
        exact this
      · exact K1 _ _ ⟨.str kd, rfl, hr13, F13.2.2.2.1, hs13, ha13, hb', .str _⟩
    rintro σ' H15 ⟨k', rfl, hr15, hpl15, hs15, ha15, hb15, hk15⟩
    -- the tests
    refine ⟨_, rfl, _, rfl, door, rw', k', b', a', s', rfl, hr15, hk15.ar, hb15.ar, ha15.ar, hs15.ar, ?_⟩
    refine ⟨_, rfl, rfl, _, rfl, ?_⟩
    refine if_false_of' (not_true_of (decide_eq_true rfl)) ?_
    refine ⟨_, rfl, _, rfl, door, rw', k', b', a', s', rfl, hr15, hk15.ar, hb15.ar, ha15.ar, hs15.ar, ?_⟩
    refine ⟨_, rfl, rfl, rfl, _, rfl, ?_⟩
    have eb : V.bl (askR door k' b' a' s').isSome = V.bl (!decide (V.str (toldS (askR door k' b' a' s')) = V.str "none")) := by
      congr 1
      cases er : askR door k' b' a' s' with
      | none => exact (not_true_of (decide_eq_true rfl)).symm
      | some e =>
        have ne : ¬ V.str (toldS (some e)) = V.str "none" := by
          rcases ask_errs er with rfl | rfl | rfl | rfl <;> exact by decide +kernel
        rw [decide_eq_false ne]; rfl
    refine if_false_of' (not_true_of (decide_eq_true eb)) ?_
    refine ⟨_, rfl, _, rfl, door, pl, _, _, _, _, rfl, hpl15, ⟨_, .str _⟩, ⟨_, .int _⟩, ⟨_, .int _⟩, ⟨_, .int _⟩, rfl, _, rfl, ?_⟩
    rw [eplain]
    refine if_true_of' (decide_eq_true rfl) ?_
    refine ⟨_, rfl, _, rfl, door, rw', k', b', a', s', rfl, hr15, hk15.ar, hb15.ar, ha15.ar, hs15.ar, ?_⟩
    exact ⟨_, rfl, rfl, ends_true q (decide_eq_true rfl)⟩
end

theorem all_mk {P : Program} {w : World} {K : PySem.W.Frag} {h : Heap} {mg : Str → Option Value} {fa f_is_whole f_is_word f_lane_of f_count_moved f_first_moved f_check_kind f_check_count f_check_size f_check_moved f_lane_at f_kept_by_rest f_lane_start f_kept_by_ranges f_first_moved_by_ranges f_law_source f_law_draw f_law_ask f_law_told f_law_base f_law_counts C_LaneError C_BadKind C_BadCount C_BadMark C_BadSize c_KINDS : Addr}
    (X : K.In h) (G : h.Ns mainGlobals mg) (hfa : mg "law" = some (.ref fa))
    {oc_is_whole kV_is_whole dc_is_whole pm_is_whole cd_is_whole ct_is_whole : Value} {od_is_whole an_is_whole : Option Addr} {sl_is_whole : Array (Option Value)}
    (a_is_whole : PySem.W.nsIn K mainGlobals "is_whole" = some (some (.ref f_is_whole)))
    (l_is_whole : K.lookup f_is_whole = some ⟨oc_is_whole, od_is_whole, .func (PySem.W.fnOf "is_whole" "is_whole" (defArgs s_is_whole) (defBody s_is_whole) (defScope s_is_whole) .none kV_is_whole dc_is_whole pm_is_whole an_is_whole cd_is_whole ct_is_whole), sl_is_whole⟩)
    (c_is_whole : PySem.W.codeIn K cd_is_whole "is_whole" = true) (k_is_whole : PySem.W.keepIn K (.ref f_is_whole) = true)
    {oc_is_word kV_is_word dc_is_word pm_is_word cd_is_word ct_is_word : Value} {od_is_word an_is_word : Option Addr} {sl_is_word : Array (Option Value)}
    (a_is_word : PySem.W.nsIn K mainGlobals "is_word" = some (some (.ref f_is_word)))
    (l_is_word : K.lookup f_is_word = some ⟨oc_is_word, od_is_word, .func (PySem.W.fnOf "is_word" "is_word" (defArgs s_is_word) (defBody s_is_word) (defScope s_is_word) .none kV_is_word dc_is_word pm_is_word an_is_word cd_is_word ct_is_word), sl_is_word⟩)
    (c_is_word : PySem.W.codeIn K cd_is_word "is_word" = true) (k_is_word : PySem.W.keepIn K (.ref f_is_word) = true)
    {oc_lane_of kV_lane_of dc_lane_of pm_lane_of cd_lane_of ct_lane_of : Value} {od_lane_of an_lane_of : Option Addr} {sl_lane_of : Array (Option Value)}
    (a_lane_of : PySem.W.nsIn K mainGlobals "lane_of" = some (some (.ref f_lane_of)))
    (l_lane_of : K.lookup f_lane_of = some ⟨oc_lane_of, od_lane_of, .func (PySem.W.fnOf "lane_of" "lane_of" (defArgs s_lane_of) (defBody s_lane_of) (defScope s_lane_of) .none kV_lane_of dc_lane_of pm_lane_of an_lane_of cd_lane_of ct_lane_of), sl_lane_of⟩)
    (c_lane_of : PySem.W.codeIn K cd_lane_of "lane_of" = true) (k_lane_of : PySem.W.keepIn K (.ref f_lane_of) = true)
    {oc_count_moved kV_count_moved dc_count_moved pm_count_moved cd_count_moved ct_count_moved : Value} {od_count_moved an_count_moved : Option Addr} {sl_count_moved : Array (Option Value)}
    (a_count_moved : PySem.W.nsIn K mainGlobals "count_moved" = some (some (.ref f_count_moved)))
    (l_count_moved : K.lookup f_count_moved = some ⟨oc_count_moved, od_count_moved, .func (PySem.W.fnOf "count_moved" "count_moved" (defArgs s_count_moved) (defBody s_count_moved) (defScope s_count_moved) .none kV_count_moved dc_count_moved pm_count_moved an_count_moved cd_count_moved ct_count_moved), sl_count_moved⟩)
    (c_count_moved : PySem.W.codeIn K cd_count_moved "count_moved" = true) (k_count_moved : PySem.W.keepIn K (.ref f_count_moved) = true)
    {oc_first_moved kV_first_moved dc_first_moved pm_first_moved cd_first_moved ct_first_moved : Value} {od_first_moved an_first_moved : Option Addr} {sl_first_moved : Array (Option Value)}
    (a_first_moved : PySem.W.nsIn K mainGlobals "first_moved" = some (some (.ref f_first_moved)))
    (l_first_moved : K.lookup f_first_moved = some ⟨oc_first_moved, od_first_moved, .func (PySem.W.fnOf "first_moved" "first_moved" (defArgs s_first_moved) (defBody s_first_moved) (defScope s_first_moved) .none kV_first_moved dc_first_moved pm_first_moved an_first_moved cd_first_moved ct_first_moved), sl_first_moved⟩)
    (c_first_moved : PySem.W.codeIn K cd_first_moved "first_moved" = true) (k_first_moved : PySem.W.keepIn K (.ref f_first_moved) = true)
    {oc_check_kind kV_check_kind dc_check_kind pm_check_kind cd_check_kind ct_check_kind : Value} {od_check_kind an_check_kind : Option Addr} {sl_check_kind : Array (Option Value)}
    (a_check_kind : PySem.W.nsIn K mainGlobals "check_kind" = some (some (.ref f_check_kind)))
    (l_check_kind : K.lookup f_check_kind = some ⟨oc_check_kind, od_check_kind, .func (PySem.W.fnOf "check_kind" "check_kind" (defArgs s_check_kind) (defBody s_check_kind) (defScope s_check_kind) .none kV_check_kind dc_check_kind pm_check_kind an_check_kind cd_check_kind ct_check_kind), sl_check_kind⟩)
    (c_check_kind : PySem.W.codeIn K cd_check_kind "check_kind" = true) (k_check_kind : PySem.W.keepIn K (.ref f_check_kind) = true)
    {oc_check_count kV_check_count dc_check_count pm_check_count cd_check_count ct_check_count : Value} {od_check_count an_check_count : Option Addr} {sl_check_count : Array (Option Value)}
    (a_check_count : PySem.W.nsIn K mainGlobals "check_count" = some (some (.ref f_check_count)))
    (l_check_count : K.lookup f_check_count = some ⟨oc_check_count, od_check_count, .func (PySem.W.fnOf "check_count" "check_count" (defArgs s_check_count) (defBody s_check_count) (defScope s_check_count) .none kV_check_count dc_check_count pm_check_count an_check_count cd_check_count ct_check_count), sl_check_count⟩)
    (c_check_count : PySem.W.codeIn K cd_check_count "check_count" = true) (k_check_count : PySem.W.keepIn K (.ref f_check_count) = true)
    {oc_check_size kV_check_size dc_check_size pm_check_size cd_check_size ct_check_size : Value} {od_check_size an_check_size : Option Addr} {sl_check_size : Array (Option Value)}
    (a_check_size : PySem.W.nsIn K mainGlobals "check_size" = some (some (.ref f_check_size)))
    (l_check_size : K.lookup f_check_size = some ⟨oc_check_size, od_check_size, .func (PySem.W.fnOf "check_size" "check_size" (defArgs s_check_size) (defBody s_check_size) (defScope s_check_size) .none kV_check_size dc_check_size pm_check_size an_check_size cd_check_size ct_check_size), sl_check_size⟩)
    (c_check_size : PySem.W.codeIn K cd_check_size "check_size" = true) (k_check_size : PySem.W.keepIn K (.ref f_check_size) = true)
    {oc_check_moved kV_check_moved dc_check_moved pm_check_moved cd_check_moved ct_check_moved : Value} {od_check_moved an_check_moved : Option Addr} {sl_check_moved : Array (Option Value)}
    (a_check_moved : PySem.W.nsIn K mainGlobals "check_moved" = some (some (.ref f_check_moved)))
    (l_check_moved : K.lookup f_check_moved = some ⟨oc_check_moved, od_check_moved, .func (PySem.W.fnOf "check_moved" "check_moved" (defArgs s_check_moved) (defBody s_check_moved) (defScope s_check_moved) .none kV_check_moved dc_check_moved pm_check_moved an_check_moved cd_check_moved ct_check_moved), sl_check_moved⟩)
    (c_check_moved : PySem.W.codeIn K cd_check_moved "check_moved" = true) (k_check_moved : PySem.W.keepIn K (.ref f_check_moved) = true)
    {oc_lane_at kV_lane_at dc_lane_at pm_lane_at cd_lane_at ct_lane_at : Value} {od_lane_at an_lane_at : Option Addr} {sl_lane_at : Array (Option Value)}
    (a_lane_at : PySem.W.nsIn K mainGlobals "lane_at" = some (some (.ref f_lane_at)))
    (l_lane_at : K.lookup f_lane_at = some ⟨oc_lane_at, od_lane_at, .func (PySem.W.fnOf "lane_at" "lane_at" (defArgs s_lane_at) (defBody s_lane_at) (defScope s_lane_at) .none kV_lane_at dc_lane_at pm_lane_at an_lane_at cd_lane_at ct_lane_at), sl_lane_at⟩)
    (c_lane_at : PySem.W.codeIn K cd_lane_at "lane_at" = true) (k_lane_at : PySem.W.keepIn K (.ref f_lane_at) = true)
    {oc_kept_by_rest kV_kept_by_rest dc_kept_by_rest pm_kept_by_rest cd_kept_by_rest ct_kept_by_rest : Value} {od_kept_by_rest an_kept_by_rest : Option Addr} {sl_kept_by_rest : Array (Option Value)}
    (a_kept_by_rest : PySem.W.nsIn K mainGlobals "kept_by_rest" = some (some (.ref f_kept_by_rest)))
    (l_kept_by_rest : K.lookup f_kept_by_rest = some ⟨oc_kept_by_rest, od_kept_by_rest, .func (PySem.W.fnOf "kept_by_rest" "kept_by_rest" (defArgs s_kept_by_rest) (defBody s_kept_by_rest) (defScope s_kept_by_rest) .none kV_kept_by_rest dc_kept_by_rest pm_kept_by_rest an_kept_by_rest cd_kept_by_rest ct_kept_by_rest), sl_kept_by_rest⟩)
    (c_kept_by_rest : PySem.W.codeIn K cd_kept_by_rest "kept_by_rest" = true) (k_kept_by_rest : PySem.W.keepIn K (.ref f_kept_by_rest) = true)
    {oc_lane_start kV_lane_start dc_lane_start pm_lane_start cd_lane_start ct_lane_start : Value} {od_lane_start an_lane_start : Option Addr} {sl_lane_start : Array (Option Value)}
    (a_lane_start : PySem.W.nsIn K mainGlobals "lane_start" = some (some (.ref f_lane_start)))
    (l_lane_start : K.lookup f_lane_start = some ⟨oc_lane_start, od_lane_start, .func (PySem.W.fnOf "lane_start" "lane_start" (defArgs s_lane_start) (defBody s_lane_start) (defScope s_lane_start) .none kV_lane_start dc_lane_start pm_lane_start an_lane_start cd_lane_start ct_lane_start), sl_lane_start⟩)
    (c_lane_start : PySem.W.codeIn K cd_lane_start "lane_start" = true) (k_lane_start : PySem.W.keepIn K (.ref f_lane_start) = true)
    {oc_kept_by_ranges kV_kept_by_ranges dc_kept_by_ranges pm_kept_by_ranges cd_kept_by_ranges ct_kept_by_ranges : Value} {od_kept_by_ranges an_kept_by_ranges : Option Addr} {sl_kept_by_ranges : Array (Option Value)}
    (a_kept_by_ranges : PySem.W.nsIn K mainGlobals "kept_by_ranges" = some (some (.ref f_kept_by_ranges)))
    (l_kept_by_ranges : K.lookup f_kept_by_ranges = some ⟨oc_kept_by_ranges, od_kept_by_ranges, .func (PySem.W.fnOf "kept_by_ranges" "kept_by_ranges" (defArgs s_kept_by_ranges) (defBody s_kept_by_ranges) (defScope s_kept_by_ranges) .none kV_kept_by_ranges dc_kept_by_ranges pm_kept_by_ranges an_kept_by_ranges cd_kept_by_ranges ct_kept_by_ranges), sl_kept_by_ranges⟩)
    (c_kept_by_ranges : PySem.W.codeIn K cd_kept_by_ranges "kept_by_ranges" = true) (k_kept_by_ranges : PySem.W.keepIn K (.ref f_kept_by_ranges) = true)
    {oc_first_moved_by_ranges kV_first_moved_by_ranges dc_first_moved_by_ranges pm_first_moved_by_ranges cd_first_moved_by_ranges ct_first_moved_by_ranges : Value} {od_first_moved_by_ranges an_first_moved_by_ranges : Option Addr} {sl_first_moved_by_ranges : Array (Option Value)}
    (a_first_moved_by_ranges : PySem.W.nsIn K mainGlobals "first_moved_by_ranges" = some (some (.ref f_first_moved_by_ranges)))
    (l_first_moved_by_ranges : K.lookup f_first_moved_by_ranges = some ⟨oc_first_moved_by_ranges, od_first_moved_by_ranges, .func (PySem.W.fnOf "first_moved_by_ranges" "first_moved_by_ranges" (defArgs s_first_moved_by_ranges) (defBody s_first_moved_by_ranges) (defScope s_first_moved_by_ranges) .none kV_first_moved_by_ranges dc_first_moved_by_ranges pm_first_moved_by_ranges an_first_moved_by_ranges cd_first_moved_by_ranges ct_first_moved_by_ranges), sl_first_moved_by_ranges⟩)
    (c_first_moved_by_ranges : PySem.W.codeIn K cd_first_moved_by_ranges "first_moved_by_ranges" = true) (k_first_moved_by_ranges : PySem.W.keepIn K (.ref f_first_moved_by_ranges) = true)
    {oc_law_source kV_law_source dc_law_source pm_law_source cd_law_source ct_law_source : Value} {od_law_source an_law_source : Option Addr} {sl_law_source : Array (Option Value)}
    (a_law_source : PySem.W.nsIn K mainGlobals "_law_source" = some (some (.ref f_law_source)))
    (l_law_source : K.lookup f_law_source = some ⟨oc_law_source, od_law_source, .func (PySem.W.fnOf "_law_source" "_law_source" (defArgs s_law_source) (defBody s_law_source) (defScope s_law_source) .none kV_law_source dc_law_source pm_law_source an_law_source cd_law_source ct_law_source), sl_law_source⟩)
    (c_law_source : PySem.W.codeIn K cd_law_source "_law_source" = true) (k_law_source : PySem.W.keepIn K (.ref f_law_source) = true)
    {oc_law_draw kV_law_draw dc_law_draw pm_law_draw cd_law_draw ct_law_draw : Value} {od_law_draw an_law_draw : Option Addr} {sl_law_draw : Array (Option Value)}
    (a_law_draw : PySem.W.nsIn K mainGlobals "_law_draw" = some (some (.ref f_law_draw)))
    (l_law_draw : K.lookup f_law_draw = some ⟨oc_law_draw, od_law_draw, .func (PySem.W.fnOf "_law_draw" "_law_draw" (defArgs s_law_draw) (defBody s_law_draw) (defScope s_law_draw) .none kV_law_draw dc_law_draw pm_law_draw an_law_draw cd_law_draw ct_law_draw), sl_law_draw⟩)
    (c_law_draw : PySem.W.codeIn K cd_law_draw "_law_draw" = true) (k_law_draw : PySem.W.keepIn K (.ref f_law_draw) = true)
    {oc_law_ask kV_law_ask dc_law_ask pm_law_ask cd_law_ask ct_law_ask : Value} {od_law_ask an_law_ask : Option Addr} {sl_law_ask : Array (Option Value)}
    (a_law_ask : PySem.W.nsIn K mainGlobals "_law_ask" = some (some (.ref f_law_ask)))
    (l_law_ask : K.lookup f_law_ask = some ⟨oc_law_ask, od_law_ask, .func (PySem.W.fnOf "_law_ask" "_law_ask" (defArgs s_law_ask) (defBody s_law_ask) (defScope s_law_ask) .none kV_law_ask dc_law_ask pm_law_ask an_law_ask cd_law_ask ct_law_ask), sl_law_ask⟩)
    (c_law_ask : PySem.W.codeIn K cd_law_ask "_law_ask" = true) (k_law_ask : PySem.W.keepIn K (.ref f_law_ask) = true)
    {oc_law_told kV_law_told dc_law_told pm_law_told cd_law_told ct_law_told : Value} {od_law_told an_law_told : Option Addr} {sl_law_told : Array (Option Value)}
    (a_law_told : PySem.W.nsIn K mainGlobals "_law_told" = some (some (.ref f_law_told)))
    (l_law_told : K.lookup f_law_told = some ⟨oc_law_told, od_law_told, .func (PySem.W.fnOf "_law_told" "_law_told" (defArgs s_law_told) (defBody s_law_told) (defScope s_law_told) .none kV_law_told dc_law_told pm_law_told an_law_told cd_law_told ct_law_told), sl_law_told⟩)
    (c_law_told : PySem.W.codeIn K cd_law_told "_law_told" = true) (k_law_told : PySem.W.keepIn K (.ref f_law_told) = true)
    {oc_law_base kV_law_base dc_law_base pm_law_base cd_law_base ct_law_base : Value} {od_law_base an_law_base : Option Addr} {sl_law_base : Array (Option Value)}
    (a_law_base : PySem.W.nsIn K mainGlobals "_law_base" = some (some (.ref f_law_base)))
    (l_law_base : K.lookup f_law_base = some ⟨oc_law_base, od_law_base, .func (PySem.W.fnOf "_law_base" "_law_base" (defArgs s_law_base) (defBody s_law_base) (defScope s_law_base) .none kV_law_base dc_law_base pm_law_base an_law_base cd_law_base ct_law_base), sl_law_base⟩)
    (c_law_base : PySem.W.codeIn K cd_law_base "_law_base" = true) (k_law_base : PySem.W.keepIn K (.ref f_law_base) = true)
    {oc_law_counts kV_law_counts dc_law_counts pm_law_counts cd_law_counts ct_law_counts : Value} {od_law_counts an_law_counts : Option Addr} {sl_law_counts : Array (Option Value)}
    (a_law_counts : PySem.W.nsIn K mainGlobals "_law_counts" = some (some (.ref f_law_counts)))
    (l_law_counts : K.lookup f_law_counts = some ⟨oc_law_counts, od_law_counts, .func (PySem.W.fnOf "_law_counts" "_law_counts" (defArgs s_law_counts) (defBody s_law_counts) (defScope s_law_counts) .none kV_law_counts dc_law_counts pm_law_counts an_law_counts cd_law_counts ct_law_counts), sl_law_counts⟩)
    (c_law_counts : PySem.W.codeIn K cd_law_counts "_law_counts" = true) (k_law_counts : PySem.W.keepIn K (.ref f_law_counts) = true)
    {f_law : Addr}
    {oc_law kV_law dc_law pm_law cd_law ct_law : Value} {od_law an_law : Option Addr} {sl_law : Array (Option Value)}
    (a_law : PySem.W.nsIn K mainGlobals "law" = some (some (.ref f_law)))
    (l_law : K.lookup f_law = some ⟨oc_law, od_law, .func (PySem.W.fnOf "law" "law" (defArgs s_law) (defBody s_law) (defScope s_law) .none kV_law dc_law pm_law an_law cd_law ct_law), sl_law⟩)
    (c_law : PySem.W.codeIn K cd_law "law" = true) (k_law : PySem.W.keepIn K (.ref f_law) = true)
    (z_ValueError : PySem.W.nsIn K mainGlobals "ValueError" = some none)
    (z_bool : PySem.W.nsIn K mainGlobals "bool" = some none)
    (z_int : PySem.W.nsIn K mainGlobals "int" = some none)
    (z_isinstance : PySem.W.nsIn K mainGlobals "isinstance" = some none)
    (z_list : PySem.W.nsIn K mainGlobals "list" = some none)
    (z_max : PySem.W.nsIn K mainGlobals "max" = some none)
    (z_min : PySem.W.nsIn K mainGlobals "min" = some none)
    (z_range : PySem.W.nsIn K mainGlobals "range" = some none)
    (z_str : PySem.W.nsIn K mainGlobals "str" = some none)
    (a_lcm : PySem.W.nsIn K mainGlobals "lcm" = some (some (.builtin "math.lcm")))
    {od_KINDS : Option Addr} {ns_KINDS : Nat} {sl_KINDS : Array (Option Value)} {t0_KINDS : Tok} {t1_KINDS : Tok}
    (a_KINDS : PySem.W.nsIn K mainGlobals "KINDS" = some (some (.ref c_KINDS)))
    (l_KINDS : K.lookup c_KINDS = some ⟨.type "tuple", od_KINDS, .seq #[.str "rest" t0_KINDS, .str "ranges" t1_KINDS] ns_KINDS, sl_KINDS⟩)
    {t_GREATEST_COUNT : Tok} (a_GREATEST_COUNT : PySem.W.nsIn K mainGlobals "GREATEST_COUNT" = some (some (.int 100000000000000000000 t_GREATEST_COUNT)))
    {t_GREATEST_MOVED_BY_RANGES : Tok} (a_GREATEST_MOVED_BY_RANGES : PySem.W.nsIn K mainGlobals "GREATEST_MOVED_BY_RANGES" = some (some (.int 1000 t_GREATEST_MOVED_BY_RANGES)))
    {t_GREATEST_MARK : Tok} (a_GREATEST_MARK : PySem.W.nsIn K mainGlobals "GREATEST_MARK" = some (some (.int 10000000000000000000000000000000000000000 t_GREATEST_MARK)))
    {t_GREATEST_SIZE : Tok} (a_GREATEST_SIZE : PySem.W.nsIn K mainGlobals "GREATEST_SIZE" = some (some (.int 10000000000000000000000000000000000000000 t_GREATEST_SIZE)))
    (ag_LaneError : PySem.W.nsIn K mainGlobals "LaneError" = some (some (.ref C_LaneError)))
    (ax_LaneError : PySem.W.excIn K C_LaneError [.type "ValueError", .type "Exception", .type "BaseException", .type "object"] "ValueError.__new__" = true)
    (ak_LaneError : PySem.W.keepIn K (.ref C_LaneError) = true) (ap_LaneError : PySem.W.subIn K (.ref C_LaneError) (.type "BaseException") = some true) (at_LaneError : PySem.W.typeIn K (.ref C_LaneError) = some (.type "type")) (ai_LaneError : PySem.W.isClsIn K C_LaneError = true)
    (ag_BadKind : PySem.W.nsIn K mainGlobals "BadKind" = some (some (.ref C_BadKind)))
    (ax_BadKind : PySem.W.excIn K C_BadKind [.type "ValueError", .type "Exception", .type "BaseException", .type "object"] "ValueError.__new__" = true)
    (ak_BadKind : PySem.W.keepIn K (.ref C_BadKind) = true) (ap_BadKind : PySem.W.subIn K (.ref C_BadKind) (.type "BaseException") = some true) (at_BadKind : PySem.W.typeIn K (.ref C_BadKind) = some (.type "type")) (ai_BadKind : PySem.W.isClsIn K C_BadKind = true)
    (ag_BadCount : PySem.W.nsIn K mainGlobals "BadCount" = some (some (.ref C_BadCount)))
    (ax_BadCount : PySem.W.excIn K C_BadCount [.type "ValueError", .type "Exception", .type "BaseException", .type "object"] "ValueError.__new__" = true)
    (ak_BadCount : PySem.W.keepIn K (.ref C_BadCount) = true) (ap_BadCount : PySem.W.subIn K (.ref C_BadCount) (.type "BaseException") = some true) (at_BadCount : PySem.W.typeIn K (.ref C_BadCount) = some (.type "type")) (ai_BadCount : PySem.W.isClsIn K C_BadCount = true)
    (ag_BadMark : PySem.W.nsIn K mainGlobals "BadMark" = some (some (.ref C_BadMark)))
    (ax_BadMark : PySem.W.excIn K C_BadMark [.type "ValueError", .type "Exception", .type "BaseException", .type "object"] "ValueError.__new__" = true)
    (ak_BadMark : PySem.W.keepIn K (.ref C_BadMark) = true) (ap_BadMark : PySem.W.subIn K (.ref C_BadMark) (.type "BaseException") = some true) (at_BadMark : PySem.W.typeIn K (.ref C_BadMark) = some (.type "type")) (ai_BadMark : PySem.W.isClsIn K C_BadMark = true)
    (ag_BadSize : PySem.W.nsIn K mainGlobals "BadSize" = some (some (.ref C_BadSize)))
    (ax_BadSize : PySem.W.excIn K C_BadSize [.type "ValueError", .type "Exception", .type "BaseException", .type "object"] "ValueError.__new__" = true)
    (ak_BadSize : PySem.W.keepIn K (.ref C_BadSize) = true) (ap_BadSize : PySem.W.subIn K (.ref C_BadSize) (.type "BaseException") = some true) (at_BadSize : PySem.W.typeIn K (.ref C_BadSize) = some (.type "type")) (ai_BadSize : PySem.W.isClsIn K C_BadSize = true)
    (q_BadKind_BadKind : PySem.W.subIn K (.ref C_BadKind) (.ref C_BadKind) = some true)
    (q_BadKind_BadCount : PySem.W.subIn K (.ref C_BadKind) (.ref C_BadCount) = some false)
    (q_BadKind_BadMark : PySem.W.subIn K (.ref C_BadKind) (.ref C_BadMark) = some false)
    (q_BadKind_BadSize : PySem.W.subIn K (.ref C_BadKind) (.ref C_BadSize) = some false)
    (q_BadKind_LaneError : PySem.W.subIn K (.ref C_BadKind) (.ref C_LaneError) = some true)
    (q_BadCount_BadKind : PySem.W.subIn K (.ref C_BadCount) (.ref C_BadKind) = some false)
    (q_BadCount_BadCount : PySem.W.subIn K (.ref C_BadCount) (.ref C_BadCount) = some true)
    (q_BadCount_BadMark : PySem.W.subIn K (.ref C_BadCount) (.ref C_BadMark) = some false)
    (q_BadCount_BadSize : PySem.W.subIn K (.ref C_BadCount) (.ref C_BadSize) = some false)
    (q_BadCount_LaneError : PySem.W.subIn K (.ref C_BadCount) (.ref C_LaneError) = some true)
    (q_BadMark_BadKind : PySem.W.subIn K (.ref C_BadMark) (.ref C_BadKind) = some false)
    (q_BadMark_BadCount : PySem.W.subIn K (.ref C_BadMark) (.ref C_BadCount) = some false)
    (q_BadMark_BadMark : PySem.W.subIn K (.ref C_BadMark) (.ref C_BadMark) = some true)
    (q_BadMark_BadSize : PySem.W.subIn K (.ref C_BadMark) (.ref C_BadSize) = some false)
    (q_BadMark_LaneError : PySem.W.subIn K (.ref C_BadMark) (.ref C_LaneError) = some true)
    (q_BadSize_BadKind : PySem.W.subIn K (.ref C_BadSize) (.ref C_BadKind) = some false)
    (q_BadSize_BadCount : PySem.W.subIn K (.ref C_BadSize) (.ref C_BadCount) = some false)
    (q_BadSize_BadMark : PySem.W.subIn K (.ref C_BadSize) (.ref C_BadMark) = some false)
    (q_BadSize_BadSize : PySem.W.subIn K (.ref C_BadSize) (.ref C_BadSize) = some true)
    (q_BadSize_LaneError : PySem.W.subIn K (.ref C_BadSize) (.ref C_LaneError) = some true)
    (hn : PySem.W.specialIn K (.builtin "object.__class__") "__get__" = some (some (.builtin "getset_descriptor.__get__"))) (ht : PySem.W.takesIn K (.builtin "object.__class__") = some true)
    (e1_BadKind : PySem.W.findIn K (.ref C_BadKind) "__getattribute__" = some (some (.builtin "BaseException.__getattribute__"))) (e2_BadKind : PySem.W.findIn K (.ref C_BadKind) "__getattr__" = some none) (e3_BadKind : PySem.W.hasDictIn K C_BadKind = true)
    (e4_BadKind : PySem.W.findIn K (.ref C_BadKind) "__class__" = some (some (.builtin "object.__class__"))) (e5_BadKind : PySem.W.mroIn K C_BadKind (.type "object") = some true) (v_BadKind : PySem.W.subIn K (.ref C_BadKind) (.type "ValueError") = some true)
    (e1_BadCount : PySem.W.findIn K (.ref C_BadCount) "__getattribute__" = some (some (.builtin "BaseException.__getattribute__"))) (e2_BadCount : PySem.W.findIn K (.ref C_BadCount) "__getattr__" = some none) (e3_BadCount : PySem.W.hasDictIn K C_BadCount = true)
    (e4_BadCount : PySem.W.findIn K (.ref C_BadCount) "__class__" = some (some (.builtin "object.__class__"))) (e5_BadCount : PySem.W.mroIn K C_BadCount (.type "object") = some true) (v_BadCount : PySem.W.subIn K (.ref C_BadCount) (.type "ValueError") = some true)
    (e1_BadMark : PySem.W.findIn K (.ref C_BadMark) "__getattribute__" = some (some (.builtin "BaseException.__getattribute__"))) (e2_BadMark : PySem.W.findIn K (.ref C_BadMark) "__getattr__" = some none) (e3_BadMark : PySem.W.hasDictIn K C_BadMark = true)
    (e4_BadMark : PySem.W.findIn K (.ref C_BadMark) "__class__" = some (some (.builtin "object.__class__"))) (e5_BadMark : PySem.W.mroIn K C_BadMark (.type "object") = some true) (v_BadMark : PySem.W.subIn K (.ref C_BadMark) (.type "ValueError") = some true)
    (e1_BadSize : PySem.W.findIn K (.ref C_BadSize) "__getattribute__" = some (some (.builtin "BaseException.__getattribute__"))) (e2_BadSize : PySem.W.findIn K (.ref C_BadSize) "__getattr__" = some none) (e3_BadSize : PySem.W.hasDictIn K C_BadSize = true)
    (e4_BadSize : PySem.W.findIn K (.ref C_BadSize) "__class__" = some (some (.builtin "object.__class__"))) (e5_BadSize : PySem.W.mroIn K C_BadSize (.type "object") = some true) (v_BadSize : PySem.W.subIn K (.ref C_BadSize) (.type "ValueError") = some true) :
    ∃ fd : FuncData, (∀ (s : Shared) (v : Value), BindsTo s fd ⟨[v], []⟩ [("_law_script", v)]) ∧ ∀ base : Heap, K.In base → base.Ns mainGlobals mg → FnOk P w K mg base CX0 7 fa fd ["_law_script"] (spLaw K) := by
  have e := hfa.symm.trans (PySem.W.mg_of X G a_law)
  cases e
  have F_is_whole := fun_mk (st := s_is_whole) l_is_whole c_is_whole k_is_whole
  have b_is_whole := F_is_whole.binds (ps := ["thing", "low", "high"]) fun _ _ _ _ _ _ us hl => match us, hl with | [_, _, _], _ => rfl
  have F_is_word := fun_mk (st := s_is_word) l_is_word c_is_word k_is_word
  have b_is_word := F_is_word.binds (ps := ["thing", "words"]) fun _ _ _ _ _ _ us hl => match us, hl with | [_, _], _ => rfl
  have F_lane_of := fun_mk (st := s_lane_of) l_lane_of c_lane_of k_lane_of
  have b_lane_of := F_lane_of.binds (ps := ["kind", "count", "mark", "size"]) fun _ _ _ _ _ _ us hl => match us, hl with | [_, _, _, _], _ => rfl
  have F_count_moved := fun_mk (st := s_count_moved) l_count_moved c_count_moved k_count_moved
  have b_count_moved := F_count_moved.binds (ps := ["kind", "before", "after", "size"]) fun _ _ _ _ _ _ us hl => match us, hl with | [_, _, _, _], _ => rfl
  have F_first_moved := fun_mk (st := s_first_moved) l_first_moved c_first_moved k_first_moved
  have b_first_moved := F_first_moved.binds (ps := ["kind", "before", "after", "size"]) fun _ _ _ _ _ _ us hl => match us, hl with | [_, _, _, _], _ => rfl
  have F_check_kind := fun_mk (st := s_check_kind) l_check_kind c_check_kind k_check_kind
  have b_check_kind := F_check_kind.binds (ps := ["kind"]) fun _ _ _ _ _ _ us hl => match us, hl with | [_], _ => rfl
  have F_check_count := fun_mk (st := s_check_count) l_check_count c_check_count k_check_count
  have b_check_count := F_check_count.binds (ps := ["count", "greatest"]) fun _ _ _ _ _ _ us hl => match us, hl with | [_, _], _ => rfl
  have F_check_size := fun_mk (st := s_check_size) l_check_size c_check_size k_check_size
  have b_check_size := F_check_size.binds (ps := ["size"]) fun _ _ _ _ _ _ us hl => match us, hl with | [_], _ => rfl
  have F_check_moved := fun_mk (st := s_check_moved) l_check_moved c_check_moved k_check_moved
  have b_check_moved := F_check_moved.binds (ps := ["kind", "before", "after", "size"]) fun _ _ _ _ _ _ us hl => match us, hl with | [_, _, _, _], _ => rfl
  have F_lane_at := fun_mk (st := s_lane_at) l_lane_at c_lane_at k_lane_at
  have b_lane_at := F_lane_at.binds (ps := ["kind", "count", "mark", "size"]) fun _ _ _ _ _ _ us hl => match us, hl with | [_, _, _, _], _ => rfl
  have F_kept_by_rest := fun_mk (st := s_kept_by_rest) l_kept_by_rest c_kept_by_rest k_kept_by_rest
  have b_kept_by_rest := F_kept_by_rest.binds (ps := ["low", "high", "size"]) fun _ _ _ _ _ _ us hl => match us, hl with | [_, _, _], _ => rfl
  have F_lane_start := fun_mk (st := s_lane_start) l_lane_start c_lane_start k_lane_start
  have b_lane_start := F_lane_start.binds (ps := ["lane", "count", "size"]) fun _ _ _ _ _ _ us hl => match us, hl with | [_, _, _], _ => rfl
  have F_kept_by_ranges := fun_mk (st := s_kept_by_ranges) l_kept_by_ranges c_kept_by_ranges k_kept_by_ranges
  have b_kept_by_ranges := F_kept_by_ranges.binds (ps := ["low", "high", "size"]) fun _ _ _ _ _ _ us hl => match us, hl with | [_, _, _], _ => rfl
  have F_first_moved_by_ranges := fun_mk (st := s_first_moved_by_ranges) l_first_moved_by_ranges c_first_moved_by_ranges k_first_moved_by_ranges
  have b_first_moved_by_ranges := F_first_moved_by_ranges.binds (ps := ["low", "high", "size"]) fun _ _ _ _ _ _ us hl => match us, hl with | [_, _, _], _ => rfl
  have F_law_source := fun_mk (st := s_law_source) l_law_source c_law_source k_law_source
  have b_law_source := F_law_source.binds (ps := ["_law_script"]) fun _ _ _ _ _ _ us hl => match us, hl with | [_], _ => rfl
  have F_law_draw := fun_mk (st := s_law_draw) l_law_draw c_law_draw k_law_draw
  have b_law_draw := F_law_draw.binds (ps := ["_law_source_here", "_law_limit"]) fun _ _ _ _ _ _ us hl => match us, hl with | [_, _], _ => rfl
  have F_law_ask := fun_mk (st := s_law_ask) l_law_ask c_law_ask k_law_ask
  have b_law_ask := F_law_ask.binds (ps := ["_law_door", "_law_row"]) fun _ _ _ _ _ _ us hl => match us, hl with | [_, _], _ => rfl
  have F_law_told := fun_mk (st := s_law_told) l_law_told c_law_told k_law_told
  have b_law_told := F_law_told.binds (ps := ["_law_door", "_law_row"]) fun _ _ _ _ _ _ us hl => match us, hl with | [_, _], _ => rfl
  have F_law_base := fun_mk (st := s_law_base) l_law_base c_law_base k_law_base
  have b_law_base := F_law_base.binds (ps := ["_law_door", "_law_row"]) fun _ _ _ _ _ _ us hl => match us, hl with | [_, _], _ => rfl
  have F_law_counts := fun_mk (st := s_law_counts) l_law_counts c_law_counts k_law_counts
  have b_law_counts := F_law_counts.binds (ps := ["_law_source_here", "_law_door", "_law_kind"]) fun _ _ _ _ _ _ us hl => match us, hl with | [_, _, _], _ => rfl
  have F_law := fun_mk (st := s_law) l_law c_law k_law
  have b_law := F_law.binds (ps := ["_law_script"]) fun _ _ _ _ _ _ us hl => match us, hl with | [_], _ => rfl
  exact ⟨PySem.W.fnOf "law" "law" (defArgs s_law) (defBody s_law) (defScope s_law) .none kV_law dc_law pm_law an_law cd_law ct_law, fun s v => .of_eq rfl, fun base _ _ => ok_law (P := P) (w := w) (mg := mg) (base := base) ({ a_is_whole := _, d_is_whole := _, F_is_whole := F_is_whole, g_is_whole := PySem.W.mg_of X G a_is_whole, b_is_whole := b_is_whole, a_is_word := _, d_is_word := _, F_is_word := F_is_word, g_is_word := PySem.W.mg_of X G a_is_word, b_is_word := b_is_word, a_lane_of := _, d_lane_of := _, F_lane_of := F_lane_of, g_lane_of := PySem.W.mg_of X G a_lane_of, b_lane_of := b_lane_of, a_count_moved := _, d_count_moved := _, F_count_moved := F_count_moved, g_count_moved := PySem.W.mg_of X G a_count_moved, b_count_moved := b_count_moved, a_first_moved := _, d_first_moved := _, F_first_moved := F_first_moved, g_first_moved := PySem.W.mg_of X G a_first_moved, b_first_moved := b_first_moved, a_check_kind := _, d_check_kind := _, F_check_kind := F_check_kind, g_check_kind := PySem.W.mg_of X G a_check_kind, b_check_kind := b_check_kind, a_check_count := _, d_check_count := _, F_check_count := F_check_count, g_check_count := PySem.W.mg_of X G a_check_count, b_check_count := b_check_count, a_check_size := _, d_check_size := _, F_check_size := F_check_size, g_check_size := PySem.W.mg_of X G a_check_size, b_check_size := b_check_size, a_check_moved := _, d_check_moved := _, F_check_moved := F_check_moved, g_check_moved := PySem.W.mg_of X G a_check_moved, b_check_moved := b_check_moved, a_lane_at := _, d_lane_at := _, F_lane_at := F_lane_at, g_lane_at := PySem.W.mg_of X G a_lane_at, b_lane_at := b_lane_at, a_kept_by_rest := _, d_kept_by_rest := _, F_kept_by_rest := F_kept_by_rest, g_kept_by_rest := PySem.W.mg_of X G a_kept_by_rest, b_kept_by_rest := b_kept_by_rest, a_lane_start := _, d_lane_start := _, F_lane_start := F_lane_start, g_lane_start := PySem.W.mg_of X G a_lane_start, b_lane_start := b_lane_start, a_kept_by_ranges := _, d_kept_by_ranges := _, F_kept_by_ranges := F_kept_by_ranges, g_kept_by_ranges := PySem.W.mg_of X G a_kept_by_ranges, b_kept_by_ranges := b_kept_by_ranges, a_first_moved_by_ranges := _, d_first_moved_by_ranges := _, F_first_moved_by_ranges := F_first_moved_by_ranges, g_first_moved_by_ranges := PySem.W.mg_of X G a_first_moved_by_ranges, b_first_moved_by_ranges := b_first_moved_by_ranges, a_law_source := _, d_law_source := _, F_law_source := F_law_source, g_law_source := PySem.W.mg_of X G a_law_source, b_law_source := b_law_source, a_law_draw := _, d_law_draw := _, F_law_draw := F_law_draw, g_law_draw := PySem.W.mg_of X G a_law_draw, b_law_draw := b_law_draw, a_law_ask := _, d_law_ask := _, F_law_ask := F_law_ask, g_law_ask := PySem.W.mg_of X G a_law_ask, b_law_ask := b_law_ask, a_law_told := _, d_law_told := _, F_law_told := F_law_told, g_law_told := PySem.W.mg_of X G a_law_told, b_law_told := b_law_told, a_law_base := _, d_law_base := _, F_law_base := F_law_base, g_law_base := PySem.W.mg_of X G a_law_base, b_law_base := b_law_base, a_law_counts := _, d_law_counts := _, F_law_counts := F_law_counts, g_law_counts := PySem.W.mg_of X G a_law_counts, b_law_counts := b_law_counts, a_law := _, d_law := _, F_law := F_law, g_law := PySem.W.mg_of X G a_law, b_law := b_law, z_ValueError := PySem.W.mg_none_of X G z_ValueError, z_bool := PySem.W.mg_none_of X G z_bool, z_int := PySem.W.mg_none_of X G z_int, z_isinstance := PySem.W.mg_none_of X G z_isinstance, z_list := PySem.W.mg_none_of X G z_list, z_max := PySem.W.mg_none_of X G z_max, z_min := PySem.W.mg_none_of X G z_min, z_range := PySem.W.mg_none_of X G z_range, z_str := PySem.W.mg_none_of X G z_str, g_lcm := PySem.W.mg_of X G a_lcm, c_KINDS := _, g_KINDS := PySem.W.mg_of X G a_KINDS, r_KINDS := rfl, q_KINDS := fun _ => .inr ⟨_, _, _, l_KINDS, rfl, rfl, by show 2 ≤ sizeLine; decide, .cons ⟨_, rfl⟩ (.cons ⟨_, rfl⟩ (.nil))⟩, u_GREATEST_COUNT := _, g_GREATEST_COUNT := PySem.W.mg_of X G a_GREATEST_COUNT, r_GREATEST_COUNT := ⟨_, rfl⟩, u_GREATEST_MOVED_BY_RANGES := _, g_GREATEST_MOVED_BY_RANGES := PySem.W.mg_of X G a_GREATEST_MOVED_BY_RANGES, r_GREATEST_MOVED_BY_RANGES := ⟨_, rfl⟩, u_GREATEST_MARK := _, g_GREATEST_MARK := PySem.W.mg_of X G a_GREATEST_MARK, r_GREATEST_MARK := ⟨_, rfl⟩, u_GREATEST_SIZE := _, g_GREATEST_SIZE := PySem.W.mg_of X G a_GREATEST_SIZE, r_GREATEST_SIZE := ⟨_, rfl⟩, C_LaneError := _, g_LaneError := PySem.W.mg_of X G ag_LaneError, x_LaneError := ax_LaneError, k_LaneError := ak_LaneError, p_LaneError := ap_LaneError, t_LaneError := at_LaneError, i_LaneError := ai_LaneError, C_BadKind := _, g_BadKind := PySem.W.mg_of X G ag_BadKind, x_BadKind := ax_BadKind, k_BadKind := ak_BadKind, p_BadKind := ap_BadKind, t_BadKind := at_BadKind, i_BadKind := ai_BadKind, C_BadCount := _, g_BadCount := PySem.W.mg_of X G ag_BadCount, x_BadCount := ax_BadCount, k_BadCount := ak_BadCount, p_BadCount := ap_BadCount, t_BadCount := at_BadCount, i_BadCount := ai_BadCount, C_BadMark := _, g_BadMark := PySem.W.mg_of X G ag_BadMark, x_BadMark := ax_BadMark, k_BadMark := ak_BadMark, p_BadMark := ap_BadMark, t_BadMark := at_BadMark, i_BadMark := ai_BadMark, C_BadSize := _, g_BadSize := PySem.W.mg_of X G ag_BadSize, x_BadSize := ax_BadSize, k_BadSize := ak_BadSize, p_BadSize := ap_BadSize, t_BadSize := at_BadSize, i_BadSize := ai_BadSize, q_BadKind_BadKind := q_BadKind_BadKind, q_BadKind_BadCount := q_BadKind_BadCount, q_BadKind_BadMark := q_BadKind_BadMark, q_BadKind_BadSize := q_BadKind_BadSize, q_BadKind_LaneError := q_BadKind_LaneError, q_BadCount_BadKind := q_BadCount_BadKind, q_BadCount_BadCount := q_BadCount_BadCount, q_BadCount_BadMark := q_BadCount_BadMark, q_BadCount_BadSize := q_BadCount_BadSize, q_BadCount_LaneError := q_BadCount_LaneError, q_BadMark_BadKind := q_BadMark_BadKind, q_BadMark_BadCount := q_BadMark_BadCount, q_BadMark_BadMark := q_BadMark_BadMark, q_BadMark_BadSize := q_BadMark_BadSize, q_BadMark_LaneError := q_BadMark_LaneError, q_BadSize_BadKind := q_BadSize_BadKind, q_BadSize_BadCount := q_BadSize_BadCount, q_BadSize_BadMark := q_BadSize_BadMark, q_BadSize_BadSize := q_BadSize_BadSize, q_BadSize_LaneError := q_BadSize_LaneError, e_BadKind := ⟨e1_BadKind, e2_BadKind, ap_BadKind, e3_BadKind, e4_BadKind, hn, ht, e5_BadKind⟩, v_BadKind := v_BadKind, e_BadCount := ⟨e1_BadCount, e2_BadCount, ap_BadCount, e3_BadCount, e4_BadCount, hn, ht, e5_BadCount⟩, v_BadCount := v_BadCount, e_BadMark := ⟨e1_BadMark, e2_BadMark, ap_BadMark, e3_BadMark, e4_BadMark, hn, ht, e5_BadMark⟩, v_BadMark := v_BadMark, e_BadSize := ⟨e1_BadSize, e2_BadSize, ap_BadSize, e3_BadSize, e4_BadSize, hn, ht, e5_BadSize⟩, v_BadSize := v_BadSize } : Txt K mg)⟩
end K01
open PySem PySem.W PyProof.Rows
set_option maxRecDepth 100000 in
set_option maxHeartbeats 0 in
theorem PySem.Challenge.cw_lanescounted_k01_marks_refused_holds : PySem.Challenge.rw_lanescounted_k01_marks_refused.Holds := by
  w_on; o_law; k_head; (case hw => w_witness2)
  k_fill
  refine L2.walk_ofB (l := PySem.Challenge.rw_lanescounted_k01_marks_refused) (n := 63) (k := 7) (x := "_law_script") (CX := fun w => L2.CX0) (sp := fun w => K01.spLaw _) rfl (by decide) rfl ⟨rfl, by decide, by decide⟩ (fun w h Y => PySem.W.kIn_of Y) ?F (fun _ _ a ns hl hb _ hS => ⟨a, ns, rfl, hS, hl, hb, fun _ => rfl⟩) (fun _ _ _ _ _ h => h)
  case F =>
    intro w mg fa h KX G hmg
    refine' K01.all_mk KX G hmg ?a_is_whole ?l_is_whole ?c_is_whole ?k_is_whole ?a_is_word ?l_is_word ?c_is_word ?k_is_word ?a_lane_of ?l_lane_of ?c_lane_of ?k_lane_of ?a_count_moved ?l_count_moved ?c_count_moved ?k_count_moved ?a_first_moved ?l_first_moved ?c_first_moved ?k_first_moved ?a_check_kind ?l_check_kind ?c_check_kind ?k_check_kind ?a_check_count ?l_check_count ?c_check_count ?k_check_count ?a_check_size ?l_check_size ?c_check_size ?k_check_size ?a_check_moved ?l_check_moved ?c_check_moved ?k_check_moved ?a_lane_at ?l_lane_at ?c_lane_at ?k_lane_at ?a_kept_by_rest ?l_kept_by_rest ?c_kept_by_rest ?k_kept_by_rest ?a_lane_start ?l_lane_start ?c_lane_start ?k_lane_start ?a_kept_by_ranges ?l_kept_by_ranges ?c_kept_by_ranges ?k_kept_by_ranges ?a_first_moved_by_ranges ?l_first_moved_by_ranges ?c_first_moved_by_ranges ?k_first_moved_by_ranges ?a_law_source ?l_law_source ?c_law_source ?k_law_source ?a_law_draw ?l_law_draw ?c_law_draw ?k_law_draw ?a_law_ask ?l_law_ask ?c_law_ask ?k_law_ask ?a_law_told ?l_law_told ?c_law_told ?k_law_told ?a_law_base ?l_law_base ?c_law_base ?k_law_base ?a_law_counts ?l_law_counts ?c_law_counts ?k_law_counts ?a_law ?l_law ?c_law ?k_law ?z_ValueError ?z_bool ?z_int ?z_isinstance ?z_list ?z_max ?z_min ?z_range ?z_str ?a_lcm ?a_KINDS ?l_KINDS ?a_GREATEST_COUNT ?a_GREATEST_MOVED_BY_RANGES ?a_GREATEST_MARK ?a_GREATEST_SIZE ?ag_LaneError ?ax_LaneError ?ak_LaneError ?ap_LaneError ?at_LaneError ?ai_LaneError ?ag_BadKind ?ax_BadKind ?ak_BadKind ?ap_BadKind ?at_BadKind ?ai_BadKind ?ag_BadCount ?ax_BadCount ?ak_BadCount ?ap_BadCount ?at_BadCount ?ai_BadCount ?ag_BadMark ?ax_BadMark ?ak_BadMark ?ap_BadMark ?at_BadMark ?ai_BadMark ?ag_BadSize ?ax_BadSize ?ak_BadSize ?ap_BadSize ?at_BadSize ?ai_BadSize ?q_BadKind_BadKind ?q_BadKind_BadCount ?q_BadKind_BadMark ?q_BadKind_BadSize ?q_BadKind_LaneError ?q_BadCount_BadKind ?q_BadCount_BadCount ?q_BadCount_BadMark ?q_BadCount_BadSize ?q_BadCount_LaneError ?q_BadMark_BadKind ?q_BadMark_BadCount ?q_BadMark_BadMark ?q_BadMark_BadSize ?q_BadMark_LaneError ?q_BadSize_BadKind ?q_BadSize_BadCount ?q_BadSize_BadMark ?q_BadSize_BadSize ?q_BadSize_LaneError ?hn ?ht ?e1_BadKind ?e2_BadKind ?e3_BadKind ?e4_BadKind ?e5_BadKind ?v_BadKind ?e1_BadCount ?e2_BadCount ?e3_BadCount ?e4_BadCount ?e5_BadCount ?v_BadCount ?e1_BadMark ?e2_BadMark ?e3_BadMark ?e4_BadMark ?e5_BadMark ?v_BadMark ?e1_BadSize ?e2_BadSize ?e3_BadSize ?e4_BadSize ?e5_BadSize ?v_BadSize
    (case a_is_whole => k_is)
    (case l_is_whole => k_is)
    (case c_is_whole => k_is)
    (case k_is_whole => k_is)
    (case a_is_word => k_is)
    (case l_is_word => k_is)
    (case c_is_word => k_is)
    (case k_is_word => k_is)
    (case a_lane_of => k_is)
    (case l_lane_of => k_is)
    (case c_lane_of => k_is)
    (case k_lane_of => k_is)
    (case a_count_moved => k_is)
    (case l_count_moved => k_is)
    (case c_count_moved => k_is)
    (case k_count_moved => k_is)
    (case a_first_moved => k_is)
    (case l_first_moved => k_is)
    (case c_first_moved => k_is)
    (case k_first_moved => k_is)
    (case a_check_kind => k_is)
    (case l_check_kind => k_is)
    (case c_check_kind => k_is)
    (case k_check_kind => k_is)
    (case a_check_count => k_is)
    (case l_check_count => k_is)
    (case c_check_count => k_is)
    (case k_check_count => k_is)
    (case a_check_size => k_is)
    (case l_check_size => k_is)
    (case c_check_size => k_is)
    (case k_check_size => k_is)
    (case a_check_moved => k_is)
    (case l_check_moved => k_is)
    (case c_check_moved => k_is)
    (case k_check_moved => k_is)
    (case a_lane_at => k_is)
    (case l_lane_at => k_is)
    (case c_lane_at => k_is)
    (case k_lane_at => k_is)
    (case a_kept_by_rest => k_is)
    (case l_kept_by_rest => k_is)
    (case c_kept_by_rest => k_is)
    (case k_kept_by_rest => k_is)
    (case a_lane_start => k_is)
    (case l_lane_start => k_is)
    (case c_lane_start => k_is)
    (case k_lane_start => k_is)
    (case a_kept_by_ranges => k_is)
    (case l_kept_by_ranges => k_is)
    (case c_kept_by_ranges => k_is)
    (case k_kept_by_ranges => k_is)
    (case a_first_moved_by_ranges => k_is)
    (case l_first_moved_by_ranges => k_is)
    (case c_first_moved_by_ranges => k_is)
    (case k_first_moved_by_ranges => k_is)
    (case a_law_source => k_is)
    (case l_law_source => k_is)
    (case c_law_source => k_is)
    (case k_law_source => k_is)
    (case a_law_draw => k_is)
    (case l_law_draw => k_is)
    (case c_law_draw => k_is)
    (case k_law_draw => k_is)
    (case a_law_ask => k_is)
    (case l_law_ask => k_is)
    (case c_law_ask => k_is)
    (case k_law_ask => k_is)
    (case a_law_told => k_is)
    (case l_law_told => k_is)
    (case c_law_told => k_is)
    (case k_law_told => k_is)
    (case a_law_base => k_is)
    (case l_law_base => k_is)
    (case c_law_base => k_is)
    (case k_law_base => k_is)
    (case a_law_counts => k_is)
    (case l_law_counts => k_is)
    (case c_law_counts => k_is)
    (case k_law_counts => k_is)
    (case a_law => k_is)
    (case l_law => k_is)
    (case c_law => k_is)
    (case k_law => k_is)
    (case z_ValueError => k_is)
    (case z_bool => k_is)
    (case z_int => k_is)
    (case z_isinstance => k_is)
    (case z_list => k_is)
    (case z_max => k_is)
    (case z_min => k_is)
    (case z_range => k_is)
    (case z_str => k_is)
    (case a_lcm => k_is)
    (case a_KINDS => k_is)
    (case l_KINDS => k_is)
    (case a_GREATEST_COUNT => k_is)
    (case a_GREATEST_MOVED_BY_RANGES => k_is)
    (case a_GREATEST_MARK => k_is)
    (case a_GREATEST_SIZE => k_is)
    (case ag_LaneError => k_is)
    (case ax_LaneError => k_exc)
    (case ak_LaneError => k_is)
    (case ap_LaneError => k_is)
    (case at_LaneError => k_is)
    (case ai_LaneError => k_is)
    (case ag_BadKind => k_is)
    (case ax_BadKind => k_exc)
    (case ak_BadKind => k_is)
    (case ap_BadKind => k_is)
    (case at_BadKind => k_is)
    (case ai_BadKind => k_is)
    (case ag_BadCount => k_is)
    (case ax_BadCount => k_exc)
    (case ak_BadCount => k_is)
    (case ap_BadCount => k_is)
    (case at_BadCount => k_is)
    (case ai_BadCount => k_is)
    (case ag_BadMark => k_is)
    (case ax_BadMark => k_exc)
    (case ak_BadMark => k_is)
    (case ap_BadMark => k_is)
    (case at_BadMark => k_is)
    (case ai_BadMark => k_is)
    (case ag_BadSize => k_is)
    (case ax_BadSize => k_exc)
    (case ak_BadSize => k_is)
    (case ap_BadSize => k_is)
    (case at_BadSize => k_is)
    (case ai_BadSize => k_is)
    (case q_BadKind_BadKind => k_is)
    (case q_BadKind_BadCount => k_is)
    (case q_BadKind_BadMark => k_is)
    (case q_BadKind_BadSize => k_is)
    (case q_BadKind_LaneError => k_is)
    (case q_BadCount_BadKind => k_is)
    (case q_BadCount_BadCount => k_is)
    (case q_BadCount_BadMark => k_is)
    (case q_BadCount_BadSize => k_is)
    (case q_BadCount_LaneError => k_is)
    (case q_BadMark_BadKind => k_is)
    (case q_BadMark_BadCount => k_is)
    (case q_BadMark_BadMark => k_is)
    (case q_BadMark_BadSize => k_is)
    (case q_BadMark_LaneError => k_is)
    (case q_BadSize_BadKind => k_is)
    (case q_BadSize_BadCount => k_is)
    (case q_BadSize_BadMark => k_is)
    (case q_BadSize_BadSize => k_is)
    (case q_BadSize_LaneError => k_is)
    (case hn => k_is)
    (case ht => k_is)
    (case e1_BadKind => k_is)
    (case e2_BadKind => k_is)
    (case e3_BadKind => k_is)
    (case e4_BadKind => k_is)
    (case e5_BadKind => k_is)
    (case v_BadKind => k_is)
    (case e1_BadCount => k_is)
    (case e2_BadCount => k_is)
    (case e3_BadCount => k_is)
    (case e4_BadCount => k_is)
    (case e5_BadCount => k_is)
    (case v_BadCount => k_is)
    (case e1_BadMark => k_is)
    (case e2_BadMark => k_is)
    (case e3_BadMark => k_is)
    (case e4_BadMark => k_is)
    (case e5_BadMark => k_is)
    (case v_BadMark => k_is)
    (case e1_BadSize => k_is)
    (case e2_BadSize => k_is)
    (case e3_BadSize => k_is)
    (case e4_BadSize => k_is)
    (case e5_BadSize => k_is)
    (case v_BadSize => k_is)
