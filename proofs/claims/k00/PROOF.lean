import PyProof.Rows.All
import Wide.All
import OpenK.AllK
import Wide.FinOn
import HandS.ForMost
import HandS.IsInst
import HandS.Codes
import PySem.Challenge.RW_vouchdoor_k00_primes_powers_and_inverses
set_option Elab.async false
set_option linter.all false
set_option maxRecDepth 100000

namespace My
open PySem PySem.Spec PyProof.Rows L2
def top (i : Nat) : Stmt := PySem.Challenge.pw_vouchdoor_k00_primes_powers_and_inverses.main.body.getD i (.Pass ⟨0, 0, 0, 0⟩)
/-! ### numbers modulo m -/
theorem pow_emod (a m : Int) : ∀ n : Nat, (a % m) ^ n % m = a ^ n % m
  | 0 => by rw [Int.pow_zero, Int.pow_zero]
  | n + 1 => by
    rw [Int.pow_succ, Int.pow_succ, Int.mul_emod, pow_emod a m n, Int.emod_emod, ← Int.mul_emod]
theorem mul_emod_l (a b m : Int) : (a % m) * b % m = a * b % m := by
  rw [Int.mul_emod, Int.emod_emod, ← Int.mul_emod]
theorem mul_emod_r (a b m : Int) : a * (b % m) % m = a * b % m := by
  rw [Int.mul_emod, Int.emod_emod, ← Int.mul_emod]
theorem emod_bd {a m : Int} (h : 0 < m) : 0 ≤ a % m ∧ a % m < m := ⟨Int.emod_nonneg _ (by omega), Int.emod_lt_of_pos _ h⟩
theorem sq_pow (s : Int) : ∀ k : Nat, (s * s) ^ k = s ^ (2 * k)
  | 0 => by rw [Int.pow_zero, Int.pow_zero]
  | k + 1 => by
    rw [Int.pow_succ, sq_pow s k, show 2 * (k + 1) = 2 * k + 1 + 1 by omega, Int.pow_succ, Int.pow_succ, Int.mul_assoc]
theorem power_odd {r s m t : Int} {n : Nat} (h : r * s ^ n % m = t % m) (o : n % 2 = 1) : (r * s % m) * (s * s % m) ^ (n / 2) % m = t % m := by
  rw [mul_emod_l, ← mul_emod_r, pow_emod, mul_emod_r, sq_pow, Int.mul_assoc, ← h]
  congr 1
  rw [show n = 2 * (n / 2) + 1 by omega, show 2 * ((2 * (n / 2) + 1) / 2) = 2 * (n / 2) by omega, Int.pow_succ, Int.mul_comm s]
theorem power_even {r s m t : Int} {n : Nat} (h : r * s ^ n % m = t % m) (o : ¬ n % 2 = 1) : r * (s * s % m) ^ (n / 2) % m = t % m := by
  rw [← mul_emod_r, pow_emod, mul_emod_r, sq_pow, ← h]
  congr 2
  rw [show 2 * (n / 2) = n by omega]

/-! ### steps -/
theorem iteD {p A B : Prop} [Decidable p] (h1 : p → A) (h2 : ¬ p → B) : if decide p = true then A else B := by
  by_cases h : p
  · rw [if_pos (decide_eq_true h)]
    exact h1 h
  · rw [if_neg (by rw [decide_eq_false h]; exact Bool.false_ne_true)]
    exact h2 h
theorem iteN {p A B : Prop} [Decidable p] (h1 : ¬ p → A) (h2 : p → B) : if (!decide p) = true then A else B := by
  by_cases h : p
  · rw [if_neg (by rw [decide_eq_true h]; decide)]
    exact h2 h
  · rw [if_pos (by rw [decide_eq_false h]; rfl)]
    exact h1 h
theorem iteB {c : Bool} {A B : Prop} (h1 : c = true → A) (h2 : c = false → B) : if c = true then A else B := by
  cases c with
  | true => exact iteT (h1 rfl)
  | false => exact iteF (h2 rfl)
theorem iteBn {c : Bool} {A B : Prop} (h1 : c = false → A) (h2 : c = true → B) : if (!c) = true then A else B := by
  cases c with
  | true => exact iteF (h2 rfl)
  | false => exact iteT (h1 rfl)
theorem kit_NoneType_tuple {K : PySem.W.Frag} : PySem.W.kitOne K (.type "NoneType") (.type "tuple") = some false := kit_ty (by decide +kernel)
theorem kit_NoneType_list {K : PySem.W.Frag} : PySem.W.kitOne K (.type "NoneType") (.type "list") = some false := kit_ty (by decide +kernel)
theorem kit_NoneType_bool {K : PySem.W.Frag} : PySem.W.kitOne K (.type "NoneType") (.type "bool") = some false := kit_ty (by decide +kernel)
theorem kit_NoneType_int {K : PySem.W.Frag} : PySem.W.kitOne K (.type "NoneType") (.type "int") = some false := kit_ty (by decide +kernel)
theorem kit_NoneType_str {K : PySem.W.Frag} : PySem.W.kitOne K (.type "NoneType") (.type "str") = some false := kit_ty (by decide +kernel)
theorem kit_bool_tuple {K : PySem.W.Frag} : PySem.W.kitOne K (.type "bool") (.type "tuple") = some false := kit_ty (by decide +kernel)
theorem kit_bool_list {K : PySem.W.Frag} : PySem.W.kitOne K (.type "bool") (.type "list") = some false := kit_ty (by decide +kernel)
theorem kit_bool_bool {K : PySem.W.Frag} : PySem.W.kitOne K (.type "bool") (.type "bool") = some true := kit_ty (by decide +kernel)
theorem kit_bool_int {K : PySem.W.Frag} : PySem.W.kitOne K (.type "bool") (.type "int") = some true := kit_ty (by decide +kernel)
theorem kit_bool_str {K : PySem.W.Frag} : PySem.W.kitOne K (.type "bool") (.type "str") = some false := kit_ty (by decide +kernel)
theorem kit_int_tuple {K : PySem.W.Frag} : PySem.W.kitOne K (.type "int") (.type "tuple") = some false := kit_ty (by decide +kernel)
theorem kit_int_list {K : PySem.W.Frag} : PySem.W.kitOne K (.type "int") (.type "list") = some false := kit_ty (by decide +kernel)
theorem kit_int_bool {K : PySem.W.Frag} : PySem.W.kitOne K (.type "int") (.type "bool") = some false := kit_ty (by decide +kernel)
theorem kit_int_int {K : PySem.W.Frag} : PySem.W.kitOne K (.type "int") (.type "int") = some true := kit_ty (by decide +kernel)
theorem kit_int_str {K : PySem.W.Frag} : PySem.W.kitOne K (.type "int") (.type "str") = some false := kit_ty (by decide +kernel)
theorem kit_str_tuple {K : PySem.W.Frag} : PySem.W.kitOne K (.type "str") (.type "tuple") = some false := kit_ty (by decide +kernel)
theorem kit_str_list {K : PySem.W.Frag} : PySem.W.kitOne K (.type "str") (.type "list") = some false := kit_ty (by decide +kernel)
theorem kit_str_bool {K : PySem.W.Frag} : PySem.W.kitOne K (.type "str") (.type "bool") = some false := kit_ty (by decide +kernel)
theorem kit_str_int {K : PySem.W.Frag} : PySem.W.kitOne K (.type "str") (.type "int") = some false := kit_ty (by decide +kernel)
theorem kit_str_str {K : PySem.W.Frag} : PySem.W.kitOne K (.type "str") (.type "str") = some true := kit_ty (by decide +kernel)
theorem kit_list_tuple {K : PySem.W.Frag} : PySem.W.kitOne K (.type "list") (.type "tuple") = some false := kit_ty (by decide +kernel)
theorem kit_list_list {K : PySem.W.Frag} : PySem.W.kitOne K (.type "list") (.type "list") = some true := kit_ty (by decide +kernel)
theorem kit_list_bool {K : PySem.W.Frag} : PySem.W.kitOne K (.type "list") (.type "bool") = some false := kit_ty (by decide +kernel)
theorem kit_list_int {K : PySem.W.Frag} : PySem.W.kitOne K (.type "list") (.type "int") = some false := kit_ty (by decide +kernel)
theorem kit_list_str {K : PySem.W.Frag} : PySem.W.kitOne K (.type "list") (.type "str") = some false := kit_ty (by decide +kernel)
theorem kit_tuple_tuple {K : PySem.W.Frag} : PySem.W.kitOne K (.type "tuple") (.type "tuple") = some true := kit_ty (by decide +kernel)
theorem kit_tuple_list {K : PySem.W.Frag} : PySem.W.kitOne K (.type "tuple") (.type "list") = some false := kit_ty (by decide +kernel)
theorem kit_tuple_bool {K : PySem.W.Frag} : PySem.W.kitOne K (.type "tuple") (.type "bool") = some false := kit_ty (by decide +kernel)
theorem kit_tuple_int {K : PySem.W.Frag} : PySem.W.kitOne K (.type "tuple") (.type "int") = some false := kit_ty (by decide +kernel)
theorem kit_tuple_str {K : PySem.W.Frag} : PySem.W.kitOne K (.type "tuple") (.type "str") = some false := kit_ty (by decide +kernel)
theorem iteCT {c : Bool} {A B : Prop} (hc : c = true) (h : A) : if c = true then A else B := by
  rw [if_pos hc]
  exact h
theorem iteCF {c : Bool} {A B : Prop} (hc : c = false) (h : B) : if c = true then A else B := by
  rw [if_neg (by rw [hc]; exact Bool.false_ne_true)]
  exact h
theorem propOnly {p : Prop} (h : p) : p := h
/-- where the walk is to stop: between two turns of a loop -/
inductive At (p : Prop) : Prop where
  | of (h : p)
  | also (h : p)
theorem At.out {p : Prop} : At p → p
  | .of h => h
  | .also h => h

local macro_rules | `(tactic| walk_at "hp") => `(tactic| first
  | (with_reducible assumption)
  | exact upd_same
  | (refine (upd_ne (by with_reducible assumption)).trans ?_; walk_at "hp"))
local macro_rules | `(tactic| walk_at "kit") => `(tactic| first
  | with_reducible exact kit_NoneType_tuple
  | with_reducible exact kit_NoneType_list
  | with_reducible exact kit_NoneType_bool
  | with_reducible exact kit_NoneType_int
  | with_reducible exact kit_NoneType_str
  | with_reducible exact kit_bool_tuple
  | with_reducible exact kit_bool_list
  | with_reducible exact kit_bool_bool
  | with_reducible exact kit_bool_int
  | with_reducible exact kit_bool_str
  | with_reducible exact kit_int_tuple
  | with_reducible exact kit_int_list
  | with_reducible exact kit_int_bool
  | with_reducible exact kit_int_int
  | with_reducible exact kit_int_str
  | with_reducible exact kit_str_tuple
  | with_reducible exact kit_str_list
  | with_reducible exact kit_str_bool
  | with_reducible exact kit_str_int
  | with_reducible exact kit_str_str
  | with_reducible exact kit_list_tuple
  | with_reducible exact kit_list_list
  | with_reducible exact kit_list_bool
  | with_reducible exact kit_list_int
  | with_reducible exact kit_list_str
  | with_reducible exact kit_tuple_tuple
  | with_reducible exact kit_tuple_list
  | with_reducible exact kit_tuple_bool
  | with_reducible exact kit_tuple_int
  | with_reducible exact kit_tuple_str)
local macro_rules | `(tactic| walk_at "ty") => `(tactic| first
  | with_reducible exact .base .non
  | with_reducible exact .base (.bl _)
  | with_reducible exact .base (.int _)
  | with_reducible exact .base (.str _)
  | exact .base (.lst (by walk_at "hp"))
  | exact .base (.tup (by walk_at "hp")))
local macro_rules | `(tactic| walk_at "sq") => `(tactic| first
  | (with_reducible assumption)
  | exact SqL.of (by walk_at "hp")
  | exact SqT.of (by walk_at "hp")
  | ((with_reducible refine (?_ : SqL _ _ _ _)); assumption)
  | ((with_reducible refine (?_ : SqT _ _ _ _)); assumption))
local macro_rules | `(tactic| walk_at "eq") => `(tactic| ((with_reducible refine (?_ : @Eq _ _ _)); rfl))
local macro_rules | `(tactic| walk_at "side") => `(tactic| first
  | (with_reducible assumption)
  | walk_at "eq"
  | ((with_reducible refine (?_ : _ ≤ sizeLine)); exact Nat.le_of_ble_eq_true rfl)
  | omega
  | (show (0 : Int) < _; omega)
  | (show CMul _ _; first | (exact Or.inl ⟨by omega, by omega⟩) | (exact Or.inr ⟨by omega, by omega⟩))
  | (show CDiv _ _; exact ⟨by omega, by omega⟩)
  | (show CPow _ _; exact ⟨by decide, by decide, by decide⟩))
local macro_rules | `(tactic| walk_at "s") => `(tactic| first
  | refine ⟨propOnly (by walk_at "side"), ?_⟩
  | refine ⟨_, (by walk_at "eq"), ?_⟩
  | refine ⟨_, _, (by walk_at "eq"), (by walk_at "eq"), ?_⟩
  | refine ⟨_, _, (by walk_at "eq"), propOnly (by walk_at "side"), ?_⟩
  | refine ⟨_, _, _, _, (by walk_at "eq"), (by walk_at "eq"), (by walk_at "sq"), (by walk_at "eq"), ?_⟩
  | refine ⟨_, _, _, _, (by walk_at "eq"), (by walk_at "eq"), (by walk_at "hp"), (by walk_at "eq"), ?_⟩
  | refine ⟨_, _, (by walk_at "eq"), .inl (by walk_at "sq"), ?_⟩
  | refine ⟨_, _, (by walk_at "eq"), .inr (by walk_at "sq"), ?_⟩
  | refine ⟨_, _, _, _, _, (by walk_at "eq"), .ty _, (by walk_at "ty"), (by walk_at "kit"), ?_⟩
  | refine Or.inl ⟨_, (by walk_at "eq"), ?_⟩
  | ((with_reducible refine iteCT ?hc ?hr); case hc => rfl)
  | ((with_reducible refine iteCF ?hc ?hr); case hc => rfl))
local macro_rules | `(tactic| walk_at "go") => `(tactic| repeat walk_at "s")


/-! ### heaps -/
theorem same_new {H : Hp} {p : Addr} {o : HO} (h : H p = none) : Same H (upd H p o) := fun b x e => by
  rw [upd_ne (ne_of_none e h)]
  exact e
/-- a new object of our own is changed -/
theorem same_mut {H0 H : Hp} {p : Addr} {o : HO} (s : Same H0 H) (h : H0 p = none) : Same H0 (upd H p o) := fun b x e => by
  rw [upd_ne (ne_of_none e h)]
  exact s b x e
/-- the list of a pool, by its look: a reference, then an int -/
def poolV : List V → Bool
  | .ref _ :: .int _ :: _ => true
  | _ => false
def poolO : HO → Bool
  | .lst xs => poolV xs
  | _ => false
/-- all that was tracked is as it was, but for pools -/
def Keep (H H' : Hp) : Prop := ∀ b o, H b = some o → poolO o = false → H' b = some o
theorem Keep.refl (H : Hp) : Keep H H := fun _ _ h _ => h
theorem Keep.trans {H H1 H2 : Hp} (a : Keep H H1) (b : Keep H1 H2) : Keep H H2 := fun c o h p => b c o (a c o h p) p
theorem keep_same {H H' : Hp} (s : Same H H') : Keep H H' := fun b o h _ => s b o h
theorem keep_new {H : Hp} {p : Addr} {o : HO} (h : H p = none) : Keep H (upd H p o) := keep_same (same_new h)
theorem keep_mut {H0 H : Hp} {p : Addr} {o : HO} (s : Keep H0 H) (h : H0 p = none) : Keep H0 (upd H p o) := fun b x e f => by
  rw [upd_ne (ne_of_none e h)]
  exact s b x e f
theorem keep_pool {H0 H : Hp} {p : Addr} {o u : HO} (s : Keep H0 H) (h : H0 p = some u) (hu : poolO u = true) : Keep H0 (upd H p o) := fun b x e f => by
  have n : b ≠ p := fun z => by
    subst z
    rw [h] at e
    cases e
    rw [hu] at f
    cases f
  rw [upd_ne n]
  exact s b x e f
/-! ### data -/
mutual
inductive Rp (H : Hp) : V → PyData → Prop
  | non : Rp H .non .none
  | bl (b : Bool) : Rp H (.bl b) (.bool b)
  | int (i : Int) : Rp H (.int i) (.int i)
  | str (x : Str) : Rp H (.str x) (.str x)
  | lst {a : Addr} {xs : List V} {ds : List PyData} : H a = some (.lst xs) → poolV xs = false → RpAll H xs ds → Rp H (.ref a) (.list ds)
  | tup {a : Addr} {xs : List V} {ds : List PyData} : H a = some (.tup xs) → RpAll H xs ds → Rp H (.ref a) (.tuple ds)
inductive RpAll (H : Hp) : List V → List PyData → Prop
  | nil : RpAll H [] []
  | cons {v : V} {vs : List V} {d : PyData} {ds : List PyData} : Rp H v d → RpAll H vs ds → RpAll H (v :: vs) (d :: ds)
end
mutual
theorem Rp.keep {H H' : Hp} (k : Keep H H') : ∀ {v : V} {d : PyData}, Rp H v d → Rp H' v d
  | _, _, .non => .non
  | _, _, .bl b => .bl b
  | _, _, .int i => .int i
  | _, _, .str x => .str x
  | _, _, .lst h p r => .lst (k _ _ h p) p (RpAll.keep k r)
  | _, _, .tup h r => .tup (k _ _ h rfl) (RpAll.keep k r)
theorem RpAll.keep {H H' : Hp} (k : Keep H H') : ∀ {vs : List V} {ds : List PyData}, RpAll H vs ds → RpAll H' vs ds
  | _, _, .nil => .nil
  | _, _, .cons a r => .cons (Rp.keep k a) (RpAll.keep k r)
end
theorem RpAll.length {H : Hp} : ∀ {vs : List V} {ds : List PyData}, RpAll H vs ds → vs.length = ds.length
  | _, _, .nil => rfl
  | _, _, .cons _ r => congrArg (· + 1) (RpAll.length r)
theorem RpAll.get {H : Hp} : ∀ {vs : List V} {ds : List PyData} {i : Nat} {d : PyData}, RpAll H vs ds → ds[i]? = some d → ∃ v, vs[i]? = some v ∧ Rp H v d
  | _, _, _, _, .nil, e => by simp at e
  | _, _, 0, _, .cons a _, e => by
    simp only [List.getElem?_cons_zero, Option.some.injEq] at e
    subst e
    exact ⟨_, rfl, a⟩
  | _, _, i + 1, _, .cons _ r, e => by
    simp only [List.getElem?_cons_succ] at e
    obtain ⟨v, h1, h2⟩ := RpAll.get (i := i) r e
    exact ⟨v, h1, h2⟩
theorem RpAll.getV {H : Hp} : ∀ {vs : List V} {ds : List PyData} {i : Nat} {v : V}, RpAll H vs ds → vs[i]? = some v → ∃ d, ds[i]? = some d ∧ Rp H v d
  | _, _, _, _, .nil, e => by simp at e
  | _, _, 0, _, .cons a _, e => by
    simp only [List.getElem?_cons_zero, Option.some.injEq] at e
    subst e
    exact ⟨_, rfl, a⟩
  | _, _, i + 1, _, .cons _ r, e => by
    simp only [List.getElem?_cons_succ] at e
    obtain ⟨d, h1, h2⟩ := RpAll.getV (i := i) r e
    exact ⟨d, h1, h2⟩
theorem rp_ints {H : Hp} : ∀ ns : List Int, RpAll H (ns.map V.int) (ns.map PyData.int)
  | [] => .nil
  | n :: ns => .cons (.int n) (rp_ints ns)
theorem pool_ints (ns : List Int) : poolV (ns.map V.int) = false := by
  cases ns <;> rfl
/-! ### pools -/
/-- at p: the pool of a law, whatever it holds; its copy of the script at c -/
def PoolAt (H : Hp) (p c : Addr) : Prop := ∃ (ns : List Int) (i m s b z : Int),
  H p = some (.lst [.ref c, .int i, .int m, .int s, .int b, .int z]) ∧ H c = some (.lst (ns.map V.int)) ∧ 0 ≤ i ∧ 0 ≤ s ∧ s < 2147483647
theorem PoolAt.same {H H' : Hp} {p c : Addr} (s : Same H H') (h : PoolAt H p c) : PoolAt H' p c := by
  obtain ⟨ns, i, m, t, b, z, h1, h2, r⟩ := h
  exact ⟨ns, i, m, t, b, z, s _ _ h1, s _ _ h2, r⟩
/-- another list is changed beside it -/
theorem PoolAt.mut {H : Hp} {p c l : Addr} {o : HO} (h : PoolAt H p c) (n : l ≠ p) (nc : l ≠ c) : PoolAt (upd H l o) p c := by
  obtain ⟨ns, i, m, t, b, z, h1, h2, r⟩ := h
  exact ⟨ns, i, m, t, b, z, by rw [upd_ne n.symm]; exact h1, by rw [upd_ne nc.symm]; exact h2, r⟩
theorem PoolAt.at {H : Hp} {p c : Addr} (h : PoolAt H p c) : ∃ xs, H p = some (.lst xs) ∧ poolV xs = true := by
  obtain ⟨ns, i, m, t, b, z, h1, _⟩ := h
  exact ⟨_, h1, rfl⟩
theorem PoolAt.ne {H : Hp} {p c l : Addr} (h : PoolAt H p c) (f : H l = none) : l ≠ p ∧ l ≠ c := by
  obtain ⟨ns, i, m, t, b, z, h1, h2, _⟩ := h
  exact ⟨(ne_of_none h1 f).symm, (ne_of_none h2 f).symm⟩

/-! ### built-ins -/
theorem bt_isinstance : bootBuiltins "isinstance" = some (.builtin "isinstance") := by decide +kernel
theorem bt_len : bootBuiltins "len" = some (.builtin "len") := by decide +kernel
theorem bt_sum : bootBuiltins "sum" = some (.builtin "sum") := by decide +kernel
theorem bt_max : bootBuiltins "max" = some (.builtin "max") := by decide +kernel
theorem bt_min : bootBuiltins "min" = some (.builtin "min") := by decide +kernel
theorem bt_abs : bootBuiltins "abs" = some (.builtin "abs") := by decide +kernel
theorem bt_any : bootBuiltins "any" = some (.builtin "any") := by decide +kernel
theorem bt_all : bootBuiltins "all" = some (.builtin "all") := by decide +kernel
theorem bt_sorted : bootBuiltins "sorted" = some (.builtin "sorted") := by decide +kernel
theorem bt_int : bootBuiltins "int" = some (.type "int") := by decide +kernel
theorem bt_bool : bootBuiltins "bool" = some (.type "bool") := by decide +kernel
theorem bt_str : bootBuiltins "str" = some (.type "str") := by decide +kernel
theorem bt_list : bootBuiltins "list" = some (.type "list") := by decide +kernel
theorem bt_tuple : bootBuiltins "tuple" = some (.type "tuple") := by decide +kernel
theorem bt_dict : bootBuiltins "dict" = some (.type "dict") := by decide +kernel
structure Blt (mg : Str → Option Value) : Prop where
  isinstance : mg "isinstance" = none
  len : mg "len" = none
  sum : mg "sum" = none
  max : mg "max" = none
  min : mg "min" = none
  abs : mg "abs" = none
  any : mg "any" = none
  all : mg "all" = none
  sorted : mg "sorted" = none
  int : mg "int" = none
  bool : mg "bool" = none
  str : mg "str" = none
  list : mg "list" = none
  tuple : mg "tuple" = none
  dict : mg "dict" = none
  range : mg "range" = none
  enumerate : mg "enumerate" = none
  zip : mg "zip" = none

theorem at_ints {ns : List Int} {v : Int} (h0 : 0 ≤ v) (h1 : v < ns.length) : ∃ n, n ∈ ns ∧ atI (ns.map V.int) v = some (.int n) := by
  have hlt : v.toNat < ns.length := by omega
  refine ⟨ns[v.toNat], List.getElem_mem hlt, at_of (j := v.toNat) (by omega) ?_⟩
  rw [List.getElem?_map, List.getElem?_eq_getElem hlt]
  rfl

/-! ### power, is_prime, inverse -/
abbrev s_is_prime : Stmt := top 1
theorem sc_is_prime : FnScope ["number", "divisor"] ["number"] (defScope s_is_prime) := ⟨rfl, rfl, rfl, by decide +kernel, rfl, by decide +kernel, by decide +kernel⟩
abbrev s_power : Stmt := top 2
theorem sc_power : FnScope ["base", "exponent", "modulus", "result", "square", "left"] ["base", "exponent", "modulus"] (defScope s_power) := ⟨rfl, rfl, rfl, by decide +kernel, rfl, by decide +kernel, by decide +kernel⟩
abbrev s_inverse : Stmt := top 3
theorem sc_inverse : FnScope ["number", "prime"] ["number", "prime"] (defScope s_inverse) := ⟨rfl, rfl, rfl, by decide +kernel, rfl, by decide +kernel, by decide +kernel⟩
section
variable {P : Program} {w : World} {K : PySem.W.Frag} {mg : Str → Option Value} {base : Heap}
def Pr (n : Int) : Prop := 2 ≤ n ∧ ∀ d : Int, 2 ≤ d → d * d ≤ n → n % d ≠ 0
def spPower : Sp := fun vs H Q _ => ∃ a e m : Int, vs = [.int a, .int e, .int m] ∧ 0 ≤ e ∧ 0 < m ∧ m < 2147483648 ∧ Q (.int (a ^ e.toNat % m)) H
theorem ok_power {f : Addr} {fd : FuncData} (F : Fun K "power" "power" s_power f fd) : FnOk P w K mg base CX0 1 f fd ["base", "exponent", "modulus"] spPower := by
  refine F.ok sc_power (fun vs H Q E h => ?_) (fun cdv A outer s H vs Q E hr h => ?_)
  · obtain ⟨a, e, m, rfl, _⟩ := h
    rfl
  · obtain ⟨a, e, m, rfl, he, hm, hm2, q⟩ := h
    obtain ⟨n, rfl⟩ : ∃ n : Nat, e = n := ⟨e.toNat, by omega⟩
    rw [Int.toNat_natCast] at q
    refine ⟨_, (pss_cons (ps_set (i := 3) sc_power.nd rfl (.inl rfl) (pe_op op_mod pe_int (pv 2)))
      (pss_cons (ps_set (i := 4) sc_power.nd rfl (.inl rfl) (pe_op op_mod (pv 0) (pv 2)))
      (pss_cons (ps_set (i := 5) sc_power.nd rfl (.inl rfl) (pv 1))
      (pss_cons (ps_while PassesOwn.never (pt_cmpR op_gt (pv 5) pe_int (nomark _)) (pss_cons (ps_if (pt_cmpR op_eq (pe_op op_mod (pv 5) pe_int) pe_int (nomark _)) (pss_one (ps_set (i := 3) sc_power.nd rfl (.inl rfl) (pe_op op_mod (pe_op op_mul (pv 3) (pv 4)) (pv 2)))) pss_nil)
      (pss_cons (ps_set (i := 4) sc_power.nd rfl (.inl rfl) (pe_op op_mod (pe_op op_mul (pv 4) (pv 4)) (pv 2)))
      (pss_one (ps_set (i := 5) sc_power.nd rfl (.inl rfl) (pe_op op_fdiv (pv 5) pe_int))))))
      (pss_one (ps_ret (pv 3))))))), ?_⟩
    walk_at "go"
    have b1 := emod_bd (a := 1) hm
    have b2 := emod_bd (a := a) hm
    refine ⟨fun k σ H' => At (∃ (r s : Int) (l : Nat), σ = [some (.int a), some (.int n), some (.int m), some (.int r), some (.int s), some (.int l)] ∧ H' = H ∧ 0 ≤ r ∧ r < m ∧ 0 ≤ s ∧ s < m ∧ r * s ^ l % m = a ^ n % m ∧ l = k),
      ⟨n, .of ⟨_, _, _, rfl, rfl, b1.1, b1.2, b2.1, b2.2, ?_, rfl⟩⟩, ?_⟩
    · rw [← mul_emod_r, pow_emod, mul_emod_r, mul_emod_l, Int.one_mul]
    rintro k σ H' hW
    obtain ⟨r, s, l, rfl, rfl, r0, r1, s0, s1, e, rfl⟩ := hW.out
    have b3 := emod_bd (a := r * s) hm
    have b4 := emod_bd (a := s * s) hm
    walk_at "go"
    refine iteD (fun h => ?_) (fun h => ?_)
    · refine ⟨_, fun _ _ h => h, ?_⟩
      walk_at "go"
      refine iteD (fun o => ?_) (fun o => ?_)
      · have o' : l % 2 = 1 := by
          have := V.int.inj o
          omega
        walk_at "go"
        exact ⟨l / 2, by omega, .of ⟨r * s % m, s * s % m, l / 2, rfl, rfl, b3.1, b3.2, b4.1, b4.2, power_odd e o', rfl⟩⟩
      · have o' : ¬ l % 2 = 1 := fun z => o (congrArg V.int (by omega))
        walk_at "go"
        exact ⟨l / 2, by omega, .of ⟨r, s * s % m, l / 2, rfl, rfl, r0, r1, b4.1, b4.2, power_even e o', rfl⟩⟩
    · walk_at "go"
      have : l = 0 := by omega
      subst this
      rw [Int.pow_zero, Int.mul_one, Int.emod_eq_of_lt r0 r1] at e
      rw [e]
      exact q
def spIsPrime : Sp := fun vs H Q _ => ∃ n : Int, vs = [.int n] ∧ n < 1073741824 ∧ ∀ b : Bool, (b = true ↔ Pr n) → Q (.bl b) H
theorem ok_is_prime {f : Addr} {fd : FuncData} (F : Fun K "is_prime" "is_prime" s_is_prime f fd) : FnOk P w K mg base CX0 1 f fd ["number"] spIsPrime := by
  refine F.ok sc_is_prime (fun vs H Q E h => ?_) (fun cdv A outer s H vs Q E hr h => ?_)
  · obtain ⟨n, rfl, _⟩ := h
    rfl
  · obtain ⟨n, rfl, hn, q⟩ := h
    refine ⟨_, (pss_cons (ps_if (pt_cmpR op_lt (pv 0) pe_int (nomark _)) (pss_one (ps_ret pe_bl)) pss_nil)
      (pss_cons (ps_set (i := 1) sc_is_prime.nd rfl (.inl rfl) pe_int)
      (pss_cons (ps_while PassesOwn.never (pt_cmpR op_le (pe_op op_mul (pv 1) (pv 1)) (pv 0) (nomark _)) (pss_cons (ps_if (pt_cmpR op_eq (pe_op op_mod (pv 0) (pv 1)) pe_int (nomark _)) (pss_one (ps_ret pe_bl)) pss_nil)
      (pss_one (ps_aug (i := 1) sc_is_prime.nd rfl (.inl rfl) (pe_ifExp (pt_cmpR op_eq (pv 1) pe_int (nomark _)) pe_int pe_int) ip_add))))
      (pss_one (ps_ret pe_bl))))), ?_⟩
    walk_at "go"
    refine iteD (fun c => ?_) (fun c => ?_)
    · walk_at "go"
      exact q _ ⟨fun z => (by cases z), fun z => absurd z.1 (by omega)⟩
    walk_at "go"
    refine ⟨fun k σ H' => At (∃ d : Int, σ = [some (.int n), some (.int d)] ∧ H' = H ∧ 2 ≤ d ∧ (d = 2 ∨ d % 2 = 1) ∧ d ≤ n + 2 ∧ (∀ e : Int, 2 ≤ e → e < d → n % e ≠ 0) ∧ (n + 2 - d).toNat = k),
      ⟨_, .of ⟨2, rfl, rfl, by omega, .inl rfl, by omega, fun e h1 h2 => by omega, rfl⟩⟩, ?_⟩
    rintro k σ H' hW
    obtain ⟨d, rfl, rfl, h2, par, dn, hd, hk⟩ := hW.out
    walk_at "go"
    refine iteD (fun h => ?_) (fun h => ?_)
    · have dle : d ≤ n := by
        have := Int.mul_le_mul_of_nonneg_right h2 (show (0 : Int) ≤ d by omega)
        omega
      refine ⟨_, fun _ _ h => h, ?_⟩
      walk_at "go"
      refine iteD (fun o => ?_) (fun o => ?_)
      · walk_at "go"
        exact q _ ⟨fun z => (by cases z), fun z => absurd (V.int.inj o) (z.2 d h2 h)⟩
      · have o' : n % d ≠ 0 := fun z => o (congrArg V.int z)
        walk_at "go"
        refine iteD (fun c2 => ?_) (fun c2 => ?_)
        · have c2' : d = 2 := V.int.inj c2
          walk_at "go"
          refine ⟨(n + 2 - (d + 1)).toNat, by omega, .of ⟨d + 1, rfl, rfl, by omega, by omega, by omega, fun e h1 h2 => ?_, rfl⟩⟩
          have : e = d := by omega
          subst this
          exact o'
        · have c2' : d ≠ 2 := fun z => c2 (congrArg V.int z)
          walk_at "go"
          refine ⟨(n + 2 - (d + 2)).toNat, by omega, .of ⟨d + 2, rfl, rfl, by omega, by omega, by omega, fun e h1 h2 => ?_, rfl⟩⟩
          by_cases e1 : e < d
          · exact hd e h1 e1
          · by_cases e2 : e = d
            · subst e2
              exact o'
            · have e3 : e % 2 = 0 := by omega
              refine fun z => hd 2 (by omega) (by omega) ?_
              have := Int.dvd_trans (Int.dvd_of_emod_eq_zero e3) (Int.dvd_of_emod_eq_zero z)
              exact Int.emod_eq_zero_of_dvd this
    · walk_at "go"
      refine q _ ⟨fun _ => ⟨by omega, fun e h1 h3 => ?_⟩, fun _ => rfl⟩
      by_cases e1 : e < d
      · exact hd e h1 e1
      · have := Int.mul_le_mul (show d ≤ e by omega) (show d ≤ e by omega) (by omega) (by omega)
        omega
def spInverse : Sp := fun vs H Q _ => ∃ a m : Int, vs = [.int a, .int m] ∧ 2 ≤ m ∧ m < 2147483648 ∧ Q (.int (a ^ (m - 2).toNat % m)) H
theorem ok_inverse {f : Addr} {fd : FuncData} (F : Fun K "inverse" "inverse" s_inverse f fd) (C_power : C8.Cal P w K mg base 1 "power" spPower []) : FnOk P w K mg base CX0 2 f fd ["number", "prime"] spInverse := by
  refine F.ok sc_inverse (fun vs H Q E h => ?_) (fun cdv A outer s H vs Q E hr h => ?_)
  · obtain ⟨a, m, rfl, _⟩ := h
    rfl
  · obtain ⟨a, m, rfl, hm, hm2, q⟩ := h
    refine ⟨_, (pss_one (ps_ret (C8.pe_c C_power hr (by omega) rfl (pa_cons (pv 0) (pa_cons (pe_op op_sub (pv 1) pe_int) (pa_cons (pv 1) pa_nil)))))), ?_⟩
    walk_at "go"
    exact ⟨_, _, _, rfl, by omega, by omega, hm2, q⟩
end

abbrev s__law_pool : Stmt := top 5
theorem sc__law_pool : FnScope ["script", "budget"] ["script", "budget"] (defScope s__law_pool) := ⟨rfl, rfl, rfl, by decide +kernel, rfl, by decide +kernel, by decide +kernel⟩
abbrev s__law_draw : Stmt := top 6
theorem sc__law_draw : FnScope ["pool", "size", "cell", "value"] ["pool", "size"] (defScope s__law_draw) := ⟨rfl, rfl, rfl, by decide +kernel, rfl, by decide +kernel, by decide +kernel⟩
section
variable {P : Program} {w : World} {K : PySem.W.Frag} {mg : Str → Option Value} {base : Heap}
def spPool (K : PySem.W.Frag) : Sp := fun vs H Q _ => ∃ (a : Addr) (ns : List Int) (z : Int), vs = [.ref a, .int z] ∧ SqL K H a (ns.map V.int) ∧
  ∀ p c H', Same H H' → H p = none → PoolAt H' p c → Q (.ref p) H'
theorem ok_law_pool {f : Addr} {fd : FuncData} (F : Fun K "_law_pool" "_law_pool" s__law_pool f fd) (B : Blt mg) : FnOk P w K mg base CX0 1 f fd ["script", "budget"] (spPool K) := by
  refine F.ok sc__law_pool (fun vs H Q E h => ?_) (fun cdv A outer s H vs Q E hr h => ?_)
  · obtain ⟨a, ns, z, rfl, _⟩ := h
    rfl
  · obtain ⟨a, ns, z, rfl, hS, q⟩ := h
    refine ⟨_, (pss_one (ps_ret (pe_lst (pa_cons (pe_callTy call_list_of (by rfl) B.list bt_list (pa_cons (pv 0) pa_nil)) (pa_cons pe_int (pa_cons pe_int (pa_cons pe_int (pa_cons pe_int (pa_cons (pv 1) pa_nil))))))))), ?_⟩
    walk_at "go"
    intro c hc
    walk_at "go"
    intro p hp
    have s1 := same_new (o := .lst (ns.map V.int)) hc
    refine q p c _ (s1.trans (same_new hp)) (s1.free hp) ⟨ns, 0, 0, 1, 0, z, upd_same, ?_, by omega, by omega, by omega⟩
    rw [upd_ne (ne_of_none upd_same hp), upd_same]
def spDraw : Sp := fun vs H Q _ => ∃ (p c : Addr) (n : Int), vs = [.ref p, .int n] ∧ PoolAt H p c ∧ 0 < n ∧ n < 1073741824 ∧
  ∀ v H', 0 ≤ v → v < n → PoolAt H' p c → Keep H H' → Q (.int v) H'
set_option maxHeartbeats 1000000 in
theorem ok_law_draw {f : Addr} {fd : FuncData} (F : Fun K "_law_draw" "_law_draw" s__law_draw f fd) (B : Blt mg) : FnOk P w K mg base CX0 1 f fd ["pool", "size"] spDraw := by
  refine F.ok sc__law_draw (fun vs H Q E h => ?_) (fun cdv A outer s H vs Q E hr h => ?_)
  · obtain ⟨p, c, n, rfl, _⟩ := h
    rfl
  · obtain ⟨p, c, n, rfl, ⟨ns, i, m, t, b, z, h1, h2, i0, t0, t1⟩, n0, n1, q⟩ := h
    have hu := hu_of hr
    refine ⟨_, (C8.pss_cut (ps_if (PW.pt (pw_and (pt_cmpR op_le (pe_ix ix_list (pv 0) pe_int (fun _ _ => rfl)) pe_int (nomark _)) (pw_and (pt_cmpR op_le (pe_ix ix_list (pv 0) pe_int (fun _ _ => rfl)) pe_int (nomark _)) (pw_and1 (pt_cmpR op_lt (pe_ix ix_list (pv 0) pe_int (fun _ _ => rfl)) (pe_callB call_len_seq (by rfl) B.len bt_len (pa_cons (pe_ix ix_list (pv 0) pe_int (fun _ _ => rfl)) pa_nil)) (nomark _)))))) (pss_cons (ps_set (i := 2) sc__law_draw.nd rfl (.inl rfl) (pe_ix ix_list (pe_ix ix_list (pv 0) pe_int (fun _ _ => rfl)) (pe_ix ix_list (pv 0) pe_int (fun _ _ => rfl)) (fun _ _ => rfl)))
      (pss_cons (ps_asg (pe_op op_add (pe_ix ix_list (pv 0) pe_int (fun _ _ => rfl)) pe_int) (pg_sub (pv 0) pe_int set_list))
      (pss_cons (ps_asg (pe_op op_mod (pe_callTy call_int1 (by rfl) B.int bt_int (pa_cons (pe_op op_add (pe_op op_mul (pe_ix ix_list (pv 0) pe_int (fun _ _ => rfl)) pe_int) (pv 2)) pa_nil)) pe_int) (pg_sub (pv 0) pe_int set_list))
      (pss_cons (ps_asg pe_int (pg_sub (pv 0) pe_int set_list))
      (pss_one (ps_if (pt_cmpR op_ge (pv 2) (pe_op op_pow pe_int pe_int) (nomark _)) (pss_one (ps_asg (pv 2) (pg_sub (pv 0) pe_int set_list))) pss_nil)))))) pss_nil)
      (pss_cons (ps_if (pt_cmpR op_gt (pe_ix ix_list (pv 0) pe_int (fun _ _ => rfl)) pe_int (nomark _)) (pss_cons (ps_set (i := 3) sc__law_draw.nd rfl (.inl rfl) (pe_op op_mod (pe_callTy call_int1 (by rfl) B.int bt_int (pa_cons (pe_ix ix_list (pv 0) pe_int (fun _ _ => rfl)) pa_nil)) (pv 1)))
      (pss_cons (ps_asg (pe_op op_fdiv (pe_ix ix_list (pv 0) pe_int (fun _ _ => rfl)) (pv 1)) (pg_sub (pv 0) pe_int set_list))
      (pss_cons (ps_asg pe_int (pg_sub (pv 0) pe_int set_list))
      (pss_one (ps_ret (pv 3)))))) pss_nil)
      (pss_cons (ps_asg (pe_op op_sub (pe_ix ix_list (pv 0) pe_int (fun _ _ => rfl)) pe_int) (pg_sub (pv 0) pe_int set_list))
      (pss_cons (ps_asg (pe_op op_mod (pe_callTy call_int1 (by rfl) B.int bt_int (pa_cons (pe_op op_add (pe_op op_mul (pe_ix ix_list (pv 0) pe_int (fun _ _ => rfl)) pe_int) pe_int) pa_nil)) pe_int) (pg_sub (pv 0) pe_int set_list))
      (pss_one (ps_ret (pe_op op_mod (pe_op op_mod (pe_callTy call_int1 (by rfl) B.int bt_int (pa_cons (pe_op op_add (pe_op op_mul (pe_ix ix_list (pv 0) pe_int (fun _ _ => rfl)) pe_int) pe_int) pa_nil)) pe_int) (pv 1)))))))), ?_⟩
    have ncp : c ≠ p := fun e => by
      rw [e, h1] at h2
      cases ns with
      | nil => cases h2
      | cons y ys => cases h2
    refine ⟨fun σ' H' => At (∃ (x : Option V) (i m t b : Int), σ' = [some (.ref p), some (.int n), x, none] ∧ H' p = some (.lst [.ref c, .int i, .int m, .int t, .int b, .int z]) ∧ H' c = some (.lst (ns.map V.int)) ∧ 0 ≤ i ∧ 0 ≤ t ∧ t < 2147483647 ∧ Keep H H'), ?_, ?_⟩
    · have out : ∃ (x : Option V) (i m t b : Int), (L2.start ["pool", "size", "cell", "value"] [.ref p, .int n]) = [some (.ref p), some (.int n), x, none] ∧ H p = some (.lst [.ref c, .int i, .int m, .int t, .int b, .int z]) ∧ H c = some (.lst (ns.map V.int)) ∧ 0 ≤ i ∧ 0 ≤ t ∧ t < 2147483647 ∧ Keep H H :=
        ⟨none, i, m, t, b, rfl, h1, h2, i0, t0, t1, Keep.refl H⟩
      walk_at "go"
      refine iteD (fun c1 => ?_) (fun c1 => ?_)
      · walk_at "go"
        refine iteD (fun c2 => ?_) (fun c2 => ?_)
        · walk_at "go"
          refine iteD (fun c3 => ?_) (fun c3 => ?_)
          · have c3' : i < (ns.length : Int) := by
              rw [List.length_map] at c3
              exact c3
            obtain ⟨y, ha⟩ : ∃ y, atI (ns.map V.int) i = some (.int y) := by
              have hlt : i.toNat < ns.length := by omega
              refine ⟨ns[i.toNat], at_of (j := i.toNat) (by omega) ?_⟩
              rw [List.getElem?_map, List.getElem?_eq_getElem hlt]
              rfl
            walk_at "go"
            refine ⟨_, _, _, _, rfl, rfl, SqL.of h2, ha, ?_⟩
            walk_at "go"
            have fin : ∀ (mm : Int) (H' : Hp) (hp : H' p = some (.lst [.ref c, .int (i + 1), .int mm, .int ((t * 31 + y) % 2147483647), .int 7, .int z])) (hc : H' c = some (.lst (ns.map V.int))) (hk : Keep H H'),
                ∃ (x : Option V) (i m t b : Int), ((L2.start ["pool", "size", "cell", "value"] [.ref p, .int n]).set 2 (some (V.int y))) = [some (.ref p), some (.int n), x, none] ∧ H' p = some (.lst [.ref c, .int i, .int m, .int t, .int b, .int z]) ∧ H' c = some (.lst (ns.map V.int)) ∧ 0 ≤ i ∧ 0 ≤ t ∧ t < 2147483647 ∧ Keep H H' :=
              fun mm H' hp hc hk => ⟨_, i + 1, mm, _, 7, rfl, hp, hc, by omega, by omega, by omega, hk⟩
            refine iteD (fun c4 => ?_) (fun c4 => ?_)
            · walk_at "go"
              exact .of (fin _ _ upd_same (by rw [upd_ne ncp, upd_ne ncp, upd_ne ncp, upd_ne ncp]; exact h2) (keep_pool (keep_pool (keep_pool (keep_pool (Keep.refl H) h1 rfl) h1 rfl) h1 rfl) h1 rfl))
            · walk_at "go"
              exact .of (fin _ _ upd_same (by rw [upd_ne ncp, upd_ne ncp, upd_ne ncp]; exact h2) (keep_pool (keep_pool (keep_pool (Keep.refl H) h1 rfl) h1 rfl) h1 rfl))
          · walk_at "go"
            exact .of out
        · walk_at "go"
          exact .of out
      · walk_at "go"
        exact .of out
    · intro σ' H' hW
      obtain ⟨x, i, m, t, b, rfl, h1', h2', i0, t0, t1, hk⟩ := hW.out
      have fin : ∀ (v : Int) (mm tt bb : Int) (H2 : Hp), 0 ≤ v → v < n → H2 p = some (.lst [.ref c, .int i, .int mm, .int tt, .int bb, .int z]) → H2 c = some (.lst (ns.map V.int)) → 0 ≤ tt → tt < 2147483647 → Keep H H2 → Q (.int v) H2 :=
        fun v mm tt bb H2 v0 v1 a1 a2 a3 a4 a5 => q v H2 v0 v1 ⟨ns, i, mm, tt, bb, z, a1, a2, i0, a3, a4⟩ a5
      walk_at "go"
      refine iteD (fun c1 => ?_) (fun c1 => ?_)
      · walk_at "go"
        exact fin _ _ _ _ _ (Int.emod_nonneg _ (by omega)) (Int.emod_lt_of_pos _ n0) upd_same (by rw [upd_ne ncp, upd_ne ncp]; exact h2') t0 t1 (keep_pool (keep_pool hk h1 rfl) h1 rfl)
      · walk_at "go"
        exact fin _ _ _ _ _ (Int.emod_nonneg _ (by omega)) (Int.emod_lt_of_pos _ n0) upd_same (by rw [upd_ne ncp, upd_ne ncp]; exact h2') (by omega) (by omega) (keep_pool (keep_pool hk h1 rfl) h1 rfl)
end

/-! ### _law_same -/
/-- data that _law_same compares, of so many levels -/
def okD : Nat → PyData → Prop
  | _, .none => True
  | _, .bool _ => True
  | _, .int _ => True
  | _, .str _ => True
  | n + 1, .list ds => ds.length ≤ 1000000 ∧ ∀ d ∈ ds, okD n d
  | n + 1, .tuple ds => ds.length ≤ 1000000 ∧ ∀ d ∈ ds, okD n d
  | _, _ => False
def spSame : Nat → Sp
  | 0 => fun _ _ _ _ => False
  | n + 1 => fun vs H Q _ => ∃ (va vd : V) (a d : PyData), vs = [va, vd] ∧ Rp H va a ∧ Rp H vd d ∧ okD n d ∧ ∀ b : Bool, (b = true ↔ a = d) → Q (.bl b) H
theorem same_bl {Q : Bool → Prop} {p : Prop} (h : ∀ b : Bool, (b = true ↔ p) → Q b) (x : Bool) (t : x = true → p) (u : p → x = true) : Q x := h x ⟨t, u⟩
abbrev s__law_same : Stmt := top 7
theorem sc__law_same : FnScope ["actual", "due", "k"] ["actual", "due"] (defScope s__law_same) := ⟨rfl, rfl, rfl, by decide +kernel, rfl, by decide +kernel, by decide +kernel⟩
section
variable {P : Program} {w : World} {K : PySem.W.Frag} {mg : Str → Option Value} {base : Heap}
set_option maxHeartbeats 400000 in
theorem ok_law_same {f : Addr} {fd : FuncData} (F : Fun K "_law_same" "_law_same" s__law_same f fd) (B : Blt mg) (mf : mg "_law_same" = some (.ref f)) (bf : Binds K fd ["actual", "due"] []) :
    ∀ n, FnOk P w K mg base CX0 n f fd ["actual", "due"] (spSame n)
  | 0 => ⟨fun _ _ _ _ h => h.elim, fun _ _ _ _ _ _ _ _ _ _ _ _ _ h => h.elim⟩
  | n + 1 => by
    have C__law_same : C8.Cal P w K mg base n "_law_same" (spSame n) [] := ⟨⟨f, fd, _, [], ok_law_same F B mf bf n, mf, F.kp, bf, .nil⟩⟩
    refine F.ok sc__law_same (fun vs H Q E h => ?_) (fun cdv A outer s H vs Q E hr h => ?_)
    · obtain ⟨va, vd, a, d, rfl, _⟩ := h
      rfl
    · obtain ⟨va, vd, a, d, rfl, ha, hd, ok, q⟩ := h
      refine ⟨_, (pss_cons (ps_if (PW.pt (pw_or (pt_val (pe_callB call_isi (by rfl) B.isinstance bt_isinstance (pa_cons (pv 1) (pa_cons (pe_bltn (v := .ty "tuple") (u := .type "tuple") (by rfl) B.tuple bt_tuple rfl) pa_nil)))) (pw_or1 (pt_val (pe_callB call_isi (by rfl) B.isinstance bt_isinstance (pa_cons (pv 1) (pa_cons (pe_bltn (v := .ty "list") (u := .type "list") (by rfl) B.list bt_list rfl) pa_nil))))))) (pss_cons (ps_if (PW.pt (pw_or (pt_cmpR op_ne (pe_callB call_isi (by rfl) B.isinstance bt_isinstance (pa_cons (pv 1) (pa_cons (pe_bltn (v := .ty "tuple") (u := .type "tuple") (by rfl) B.tuple bt_tuple rfl) pa_nil))) (pe_callB call_isi (by rfl) B.isinstance bt_isinstance (pa_cons (pv 0) (pa_cons (pe_bltn (v := .ty "tuple") (u := .type "tuple") (by rfl) B.tuple bt_tuple rfl) pa_nil))) (nomark _)) (pw_or1 (pt_cmpR op_ne (pe_callB call_isi (by rfl) B.isinstance bt_isinstance (pa_cons (pv 1) (pa_cons (pe_bltn (v := .ty "list") (u := .type "list") (by rfl) B.list bt_list rfl) pa_nil))) (pe_callB call_isi (by rfl) B.isinstance bt_isinstance (pa_cons (pv 0) (pa_cons (pe_bltn (v := .ty "list") (u := .type "list") (by rfl) B.list bt_list rfl) pa_nil))) (nomark _))))) (pss_one (ps_ret pe_bl)) pss_nil)
      (pss_cons (ps_if (pt_cmpR op_ne (pe_callB call_len_seq (by rfl) B.len bt_len (pa_cons (pv 0) pa_nil)) (pe_callB call_len_seq (by rfl) B.len bt_len (pa_cons (pv 1) pa_nil)) (nomark _)) (pss_one (ps_ret pe_bl)) pss_nil)
      (pss_cons (ps_for PassesOwn.never rfl (pi_range1 rfl B.range (pa_cons (pe_callB call_len_seq (by rfl) B.len bt_len (pa_cons (pv 1) pa_nil)) pa_nil)) (pg_name (i := 2) sc__law_same.nd rfl (.inl rfl))
      (pss_one (ps_if (pt_not (pt_val (C8.pe_c C__law_same hr (by omega) rfl (pa_cons (pe_ix ix_seq (pv 0) (pv 2) (fun _ _ => rfl)) (pa_cons (pe_ix ix_seq (pv 1) (pv 2) (fun _ _ => rfl)) pa_nil))))) (pss_one (ps_ret pe_bl)) pss_nil)))
      (pss_one (ps_ret pe_bl))))) pss_nil)
      (pss_cons (ps_if (PW.pt (pw_or (pt_cmpR op_isN (pv 1) pe_non (nomark _)) (pw_or1 (pt_val (pe_callB call_isi (by rfl) B.isinstance bt_isinstance (pa_cons (pv 1) (pa_cons (pe_bltn (v := .ty "bool") (u := .type "bool") (by rfl) B.bool bt_bool rfl) pa_nil))))))) (pss_one (ps_ret (pe_and (pe_cmpR op_eq (pe_cmpR op_isN (pv 0) pe_non (nomark _)) (pe_cmpR op_isN (pv 1) pe_non (nomark _)) (nomark _)) (pe_and (pe_or (pe_cmpR op_isN (pv 1) pe_non (nomark _)) (pe_one (pe_callB call_isi (by rfl) B.isinstance bt_isinstance (pa_cons (pv 0) (pa_cons (pe_bltn (v := .ty "bool") (u := .type "bool") (by rfl) B.bool bt_bool rfl) pa_nil))))) (pe_one (pe_cmpR op_eq (pv 0) (pv 1) (nomark _))))))) pss_nil)
      (pss_cons (ps_if (pt_val (pe_callB call_isi (by rfl) B.isinstance bt_isinstance (pa_cons (pv 1) (pa_cons (pe_bltn (v := .ty "int") (u := .type "int") (by rfl) B.int bt_int rfl) pa_nil)))) (pss_one (ps_ret (pe_and (pe_callB call_isi (by rfl) B.isinstance bt_isinstance (pa_cons (pv 0) (pa_cons (pe_bltn (v := .ty "int") (u := .type "int") (by rfl) B.int bt_int rfl) pa_nil))) (pe_and (pe_not (pe_callB call_isi (by rfl) B.isinstance bt_isinstance (pa_cons (pv 0) (pa_cons (pe_bltn (v := .ty "bool") (u := .type "bool") (by rfl) B.bool bt_bool rfl) pa_nil)))) (pe_one (pe_cmpR op_eq (pv 0) (pv 1) (nomark _))))))) pss_nil)
      (pss_one (ps_ret (pe_and (pe_callB call_isi (by rfl) B.isinstance bt_isinstance (pa_cons (pv 0) (pa_cons (pe_bltn (v := .ty "str") (u := .type "str") (by rfl) B.str bt_str rfl) pa_nil))) (pe_one (pe_cmpR op_eq (pv 0) (pv 1) (nomark _))))))))), ?_⟩
      cases hd with
      | non => walk_at "go"; cases ha <;> (walk_at "go"; exact q _ (by simp))
      | bl b => walk_at "go"; cases ha <;> (walk_at "go"; exact q _ (by simp))
      | int b => walk_at "go"; cases ha <;> (walk_at "go"; exact q _ (by simp))
      | str b => walk_at "go"; cases ha <;> (walk_at "go"; exact q _ (by simp))
      | @lst a2 ys es h p r =>
        have hn : 0 < n := by
          cases n with
          | zero => exact ok.elim
          | succ n => exact Nat.succ_pos n
        obtain ⟨n, rfl⟩ : ∃ m, n = m + 1 := ⟨n - 1, by omega⟩
        walk_at "go"
        cases ha with
        | @lst a1 xs ds h1 p1 r1 =>
          walk_at "go"
          refine iteN (fun e => ?_) (fun e => ?_)
          · walk_at "go"
            refine q _ ⟨fun z => (by cases z), fun z => absurd ?_ e⟩
            cases z
            rw [r1.length, r.length]
          · have el : ds.length = es.length := by
              have e' := V.int.inj e
              rw [r1.length, r.length] at e'
              omega
            have hl : es.length ≤ 1000000 := ok.1
            have hly : ys.length = es.length := r.length
            walk_at "go"
            refine for_range (fun i σ' H' => At (∃ y, σ' = [some (.ref a1), some (.ref a2), y] ∧ H' = H ∧ ∀ j < i, ds[j]? = es[j]?)) (.of ⟨none, rfl, rfl, fun j hj => absurd hj (Nat.not_lt_zero _)⟩) ?_ ?_
            · rintro i σ' H' hi hW
              obtain ⟨y, rfl, rfl, hj⟩ := hW.out
              have hie : i < es.length := by omega
              have hid : i < ds.length := by omega
              obtain ⟨vx, g1, k1⟩ := r1.get (List.getElem?_eq_getElem hid)
              obtain ⟨vy, g2, k2⟩ := r.get (List.getElem?_eq_getElem hie)
              walk_at "go"
              refine Or.inl ⟨_, _, _, _, rfl, rfl, SqL.of h1, at_of (Int.zero_add _) g1, ?_⟩
              walk_at "go"
              refine Or.inl ⟨_, _, _, _, rfl, rfl, SqL.of h, at_of (Int.zero_add _) g2, ?_⟩
              refine ⟨_, _, _, _, rfl, k1, k2, ok.2 _ (List.getElem_mem hie), fun b hb => ?_⟩
              walk_at "go"
              refine iteBn (fun c => ?_) (fun c => ?_)
              · walk_at "go"
                refine q _ ⟨fun z => (by cases z), fun z => absurd (hb.mpr ?_) (by rw [c]; decide)⟩
                cases z
                rfl
              · walk_at "go"
                refine .of ⟨_, rfl, rfl, fun j h => ?_⟩
                by_cases hji : j < i
                · exact hj j hji
                · have : j = i := by omega
                  subst this
                  rw [List.getElem?_eq_getElem hid, List.getElem?_eq_getElem hie, hb.mp c]
            · rintro σ' H' hW
              obtain ⟨y, rfl, rfl, hj⟩ := hW.out
              walk_at "go"
              refine q _ ⟨fun _ => ?_, fun _ => rfl⟩
              congr 1
              refine List.ext_getElem? fun j => ?_
              by_cases h : j < es.length
              · exact hj j (by omega)
              · rw [List.getElem?_eq_none (by omega), List.getElem?_eq_none (by omega)]
        | non => walk_at "go"; exact q _ (by simp)
        | bl b => walk_at "go"; exact q _ (by simp)
        | int b => walk_at "go"; exact q _ (by simp)
        | str b => walk_at "go"; exact q _ (by simp)
        | tup h1 r1 => walk_at "go"; exact q _ (by simp)
      | @tup a2 ys es h r =>
        have hn : 0 < n := by
          cases n with
          | zero => exact ok.elim
          | succ n => exact Nat.succ_pos n
        obtain ⟨n, rfl⟩ : ∃ m, n = m + 1 := ⟨n - 1, by omega⟩
        walk_at "go"
        cases ha with
        | @tup a1 xs ds h1 r1 =>
          walk_at "go"
          refine iteN (fun e => ?_) (fun e => ?_)
          · walk_at "go"
            refine q _ ⟨fun z => (by cases z), fun z => absurd ?_ e⟩
            cases z
            rw [r1.length, r.length]
          · have el : ds.length = es.length := by
              have e' := V.int.inj e
              rw [r1.length, r.length] at e'
              omega
            have hl : es.length ≤ 1000000 := ok.1
            have hly : ys.length = es.length := r.length
            walk_at "go"
            refine for_range (fun i σ' H' => At (∃ y, σ' = [some (.ref a1), some (.ref a2), y] ∧ H' = H ∧ ∀ j < i, ds[j]? = es[j]?)) (.of ⟨none, rfl, rfl, fun j hj => absurd hj (Nat.not_lt_zero _)⟩) ?_ ?_
            · rintro i σ' H' hi hW
              obtain ⟨y, rfl, rfl, hj⟩ := hW.out
              have hie : i < es.length := by omega
              have hid : i < ds.length := by omega
              obtain ⟨vx, g1, k1⟩ := r1.get (List.getElem?_eq_getElem hid)
              obtain ⟨vy, g2, k2⟩ := r.get (List.getElem?_eq_getElem hie)
              walk_at "go"
              refine Or.inr (Or.inl ⟨_, _, _, _, rfl, rfl, SqT.of h1, at_of (Int.zero_add _) g1, ?_⟩)
              walk_at "go"
              refine Or.inr (Or.inl ⟨_, _, _, _, rfl, rfl, SqT.of h, at_of (Int.zero_add _) g2, ?_⟩)
              refine ⟨_, _, _, _, rfl, k1, k2, ok.2 _ (List.getElem_mem hie), fun b hb => ?_⟩
              walk_at "go"
              refine iteBn (fun c => ?_) (fun c => ?_)
              · walk_at "go"
                refine q _ ⟨fun z => (by cases z), fun z => absurd (hb.mpr ?_) (by rw [c]; decide)⟩
                cases z
                rfl
              · walk_at "go"
                refine .of ⟨_, rfl, rfl, fun j h => ?_⟩
                by_cases hji : j < i
                · exact hj j hji
                · have : j = i := by omega
                  subst this
                  rw [List.getElem?_eq_getElem hid, List.getElem?_eq_getElem hie, hb.mp c]
            · rintro σ' H' hW
              obtain ⟨y, rfl, rfl, hj⟩ := hW.out
              walk_at "go"
              refine q _ ⟨fun _ => ?_, fun _ => rfl⟩
              congr 1
              refine List.ext_getElem? fun j => ?_
              by_cases h : j < es.length
              · exact hj j (by omega)
              · rw [List.getElem?_eq_none (by omega), List.getElem?_eq_none (by omega)]
        | non => walk_at "go"; exact q _ (by simp)
        | bl b => walk_at "go"; exact q _ (by simp)
        | int b => walk_at "go"; exact q _ (by simp)
        | str b => walk_at "go"; exact q _ (by simp)
        | lst h1 p1 r1 => walk_at "go"; exact q _ (by simp)
end

abbrev s__law_prime : Stmt := top 8
theorem sc__law_prime : FnScope ["number", "divisor"] ["number"] (defScope s__law_prime) := ⟨rfl, rfl, rfl, by decide +kernel, rfl, by decide +kernel, by decide +kernel⟩
section
variable {P : Program} {w : World} {K : PySem.W.Frag} {mg : Str → Option Value} {base : Heap}
def spLawPrime : Sp := fun vs H Q _ => ∃ n : Int, vs = [.int n] ∧ n ≤ 1002000 ∧ ∀ b : Bool, (b = true ↔ Pr n) → Q (.bl b) H
theorem pr_small {n : Int} (h : n ≤ 1002000) (g : ∀ d : Int, 2 ≤ d → d < 1001 → d * d ≤ n → n % d ≠ 0) : Pr n ↔ 1 < n := by
  refine ⟨fun p => by have := p.1; omega, fun p => ⟨by omega, fun d h2 hd => ?_⟩⟩
  refine g d h2 ?_ hd
  refine Int.lt_of_not_ge fun z => ?_
  have := Int.mul_le_mul z z (by omega) (by omega)
  omega
theorem ok_law_prime {f : Addr} {fd : FuncData} (F : Fun K "_law_prime" "_law_prime" s__law_prime f fd) (B : Blt mg) : FnOk P w K mg base CX0 1 f fd ["number"] spLawPrime := by
  refine F.ok sc__law_prime (fun vs H Q E h => ?_) (fun cdv A outer s H vs Q E hr h => ?_)
  · obtain ⟨n, rfl, _⟩ := h
    rfl
  · obtain ⟨n, rfl, hn, q⟩ := h
    refine ⟨_, (pss_cons (ps_for PassesOwn.never rfl (pi_range2 rfl B.range (pa_cons pe_int (pa_cons pe_int pa_nil))) (pg_name (i := 1) sc__law_prime.nd rfl (.inl rfl))
      (pss_one (ps_if (PW.pt (pw_and (pt_cmpR op_le (pe_op op_mul (pv 1) (pv 1)) (pv 0) (nomark _)) (pw_and1 (pt_cmpR op_eq (pe_op op_mod (pe_callTy call_int1 (by rfl) B.int bt_int (pa_cons (pv 0) pa_nil)) (pv 1)) pe_int (nomark _))))) (pss_one (ps_ret pe_bl)) pss_nil)))
      (pss_one (ps_ret (pe_cmpR op_gt (pv 0) pe_int (nomark _))))), ?_⟩
    walk_at "go"
    refine for_range (fun i σ' H' => At (∃ y, σ' = [some (.int n), y] ∧ H' = H ∧ ∀ d : Int, 2 ≤ d → d < 2 + i → d * d ≤ n → n % d ≠ 0)) (.of ⟨none, rfl, rfl, fun d h1 h2 => by omega⟩) ?_ ?_
    · rintro i σ' H' hi hW
      obtain ⟨y, rfl, rfl, hd⟩ := hW.out
      have hi' : i < 999 := hi
      walk_at "go"
      refine iteD (fun c1 => ?_) (fun c1 => ?_)
      · walk_at "go"
        refine iteD (fun c2 => ?_) (fun c2 => ?_)
        · walk_at "go"
          refine q _ ⟨fun z => (by cases z), fun z => absurd (V.int.inj c2) (z.2 _ (by omega) c1)⟩
        · walk_at "go"
          refine .of ⟨_, rfl, rfl, fun d h1 h2 h3 => ?_⟩
          by_cases hx : d < 2 + i
          · exact hd d h1 hx h3
          · have : d = 2 + i := by omega
            subst this
            exact fun z => c2 (congrArg V.int z)
      · walk_at "go"
        refine .of ⟨_, rfl, rfl, fun d h1 h2 h3 => ?_⟩
        by_cases hx : d < 2 + i
        · exact hd d h1 hx h3
        · have : d = 2 + i := by omega
          subst this
          exact absurd h3 c1
    · rintro σ' H' hW
      obtain ⟨y, rfl, rfl, hd⟩ := hW.out
      walk_at "go"
      refine q _ ?_
      rw [decide_eq_true_eq]
      exact (pr_small hn fun d h1 h2 => hd d h1 (by show d < 2 + ((1001 - 2 : Int).toNat : Int); omega)).symm
end

abbrev s_law : Stmt := top 9
theorem sc_law : FnScope ["script", "pool", "turn", "primes", "number", "modulus", "base", "exponent", "due", "k", "prime", "found"] ["script"] (defScope s_law) := ⟨rfl, rfl, rfl, by decide +kernel, rfl, by decide +kernel, by decide +kernel⟩
/-! ### the law -/
theorem fermat_tab : ∀ p : Nat, p ∈ [2, 3, 5, 7, 11, 101, 607, 1999] → ∀ r : Nat, r < p - 1 → (1 + r) ^ (p - 2) % p * (1 + r) % p = 1 % p ∧ 0 < (1 + r) ^ (p - 2) % p := by decide +kernel
theorem fermat_int {p x : Int} (hp : p ∈ ([2, 3, 5, 7, 11, 101, 607, 1999] : List Int)) {r d : Int} (h0 : 0 ≤ r) (h1 : r < p - 1) (hx : x = 1 + r + p * d) :
    2 ≤ p ∧ p < 2147483648 ∧ (x ^ (p - 2).toNat % p) * x % p = 1 % p ∧ 0 < x ^ (p - 2).toNat % p ∧ x ^ (p - 2).toNat % p < p := by
  obtain ⟨k, hk, rfl⟩ : ∃ k : Nat, k ∈ [2, 3, 5, 7, 11, 101, 607, 1999] ∧ p = k := by
    simp only [List.mem_cons, List.not_mem_nil, or_false] at hp
    refine ⟨p.toNat, ?_, by omega⟩
    simp only [List.mem_cons, List.not_mem_nil, or_false]
    omega
  obtain ⟨j, rfl⟩ : ∃ j : Nat, r = j := ⟨r.toNat, by omega⟩
  have k2 : 2 ≤ k ∧ k ≤ 1999 := by
    simp only [List.mem_cons, List.not_mem_nil, or_false] at hk
    omega
  obtain ⟨t1, t2⟩ := fermat_tab k hk j (by omega)
  have xm : x % (k : Int) = ((1 + j : Nat) : Int) % (k : Int) := by
    rw [hx, Int.add_mul_emod_self_left]
    rfl
  have e1 : x ^ ((k : Int) - 2).toNat % (k : Int) = (((1 + j) ^ (k - 2) % k : Nat) : Int) := by
    rw [← pow_emod, xm, pow_emod, show ((k : Int) - 2).toNat = k - 2 by omega]
    push_cast
    rfl
  refine ⟨by omega, by omega, ?_, ?_, ?_⟩
  · rw [e1, ← mul_emod_r, xm, mul_emod_r, ← Int.natCast_mul, ← Int.natCast_emod, t1]
    rfl
  · rw [e1]
    omega
  · exact Int.emod_lt_of_pos _ (by omega)
section
variable {P : Program} {w : World} {K : PySem.W.Frag} {mg : Str → Option Value} {base : Heap}
def spLaw (K : PySem.W.Frag) : Sp := fun vs H Q _ => ∃ (a : Addr) (ns : List Int), vs = [.ref a] ∧ SqL K H a (ns.map V.int) ∧ ∀ H', Q (.bl true) H'
set_option maxHeartbeats 2000000 in
theorem ok_law {f : Addr} {fd : FuncData} (F : Fun K "law" "law" s_law f fd) (B : Blt mg) (C__law_pool : C8.Cal P w K mg base 1 "_law_pool" (spPool K) []) (C__law_draw : C8.Cal P w K mg base 1 "_law_draw" spDraw [])
    (C__law_same : C8.Cal P w K mg base 1 "_law_same" (spSame 1) []) (C_is_prime : C8.Cal P w K mg base 1 "is_prime" spIsPrime []) (C__law_prime : C8.Cal P w K mg base 1 "_law_prime" spLawPrime [])
    (C_power : C8.Cal P w K mg base 1 "power" spPower []) (C_inverse : C8.Cal P w K mg base 2 "inverse" spInverse []) : FnOk P w K mg base CX0 3 f fd ["script"] (spLaw K) := by
  refine F.ok sc_law (fun vs H Q E h => ?_) (fun cdv A outer s H vs Q E hr h => ?_)
  · obtain ⟨a, ns, rfl, _⟩ := h
    rfl
  · obtain ⟨a, ns, rfl, hS, q⟩ := h
    refine ⟨_, (pss_cons (ps_set (i := 1) sc_law.nd rfl (.inl rfl) (C8.pe_c C__law_pool hr (by omega) rfl (pa_cons (pv 0) (pa_cons pe_int pa_nil))))
      (pss_cons (ps_for PassesOwn.never rfl (pi_range1 rfl B.range (pa_cons pe_int pa_nil)) (pg_name (i := 2) sc_law.nd rfl (.inl rfl))
      (pss_cons (ps_set (i := 3) sc_law.nd rfl (.inl rfl) (pe_tup (pa_cons pe_int (pa_cons pe_int (pa_cons pe_int (pa_cons pe_int (pa_cons pe_int (pa_cons pe_int (pa_cons pe_int (pa_cons pe_int (pa_cons pe_int (pa_cons pe_int pa_nil))))))))))))
      (pss_cons (ps_set (i := 4) sc_law.nd rfl (.inl rfl) (pe_op op_mul (pe_ix ix_tup (pv 3) (C8.pe_c C__law_draw hr (by omega) rfl (pa_cons (pv 1) (pa_cons pe_int pa_nil))) (fun _ _ => rfl)) (pe_ix ix_tup (pv 3) (C8.pe_c C__law_draw hr (by omega) rfl (pa_cons (pv 1) (pa_cons pe_int pa_nil))) (fun _ _ => rfl))))
      (pss_cons (ps_set (i := 4) sc_law.nd rfl (.inl rfl) (pe_ix ix_tup (pe_tup (pa_cons (C8.pe_c C__law_draw hr (by omega) rfl (pa_cons (pv 1) (pa_cons pe_int pa_nil))) (pa_cons (C8.pe_c C__law_draw hr (by omega) rfl (pa_cons (pv 1) (pa_cons pe_int pa_nil))) (pa_cons (C8.pe_c C__law_draw hr (by omega) rfl (pa_cons (pv 1) (pa_cons pe_int pa_nil))) (pa_cons (pv 4) pa_nil))))) (C8.pe_c C__law_draw hr (by omega) rfl (pa_cons (pv 1) (pa_cons pe_int pa_nil))) (fun _ _ => rfl)))
      (pss_one (ps_if (pt_not (pt_val (C8.pe_c C__law_same hr (by omega) rfl (pa_cons (C8.pe_c C_is_prime hr (by omega) rfl (pa_cons (pv 4) pa_nil)) (pa_cons (C8.pe_c C__law_prime hr (by omega) rfl (pa_cons (pv 4) pa_nil)) pa_nil))))) (pss_one (ps_ret pe_bl)) pss_nil))))))
      (pss_cons (ps_set (i := 5) sc_law.nd rfl (.inl rfl) (pe_op op_add pe_int (C8.pe_c C__law_draw hr (by omega) rfl (pa_cons (pv 1) (pa_cons pe_int pa_nil)))))
      (pss_cons (ps_set (i := 6) sc_law.nd rfl (.inl rfl) (C8.pe_c C__law_draw hr (by omega) rfl (pa_cons (pv 1) (pa_cons pe_int pa_nil))))
      (pss_cons (ps_set (i := 7) sc_law.nd rfl (.inl rfl) (C8.pe_c C__law_draw hr (by omega) rfl (pa_cons (pv 1) (pa_cons pe_int pa_nil))))
      (pss_cons (ps_set (i := 8) sc_law.nd rfl (.inl rfl) (pe_op op_mod (pe_callTy call_int1 (by rfl) B.int bt_int (pa_cons pe_int pa_nil)) (pv 5)))
      (pss_cons (ps_for PassesOwn.never rfl (pi_range1 rfl B.range (pa_cons (pv 7) pa_nil)) (pg_name (i := 9) sc_law.nd rfl (.inl rfl))
      (pss_one (ps_set (i := 8) sc_law.nd rfl (.inl rfl) (pe_op op_mod (pe_callTy call_int1 (by rfl) B.int bt_int (pa_cons (pe_op op_mul (pv 8) (pv 6)) pa_nil)) (pv 5)))))
      (pss_cons (ps_if (pt_not (pt_val (C8.pe_c C__law_same hr (by omega) rfl (pa_cons (C8.pe_c C_power hr (by omega) rfl (pa_cons (pv 6) (pa_cons (pv 7) (pa_cons (pv 5) pa_nil)))) (pa_cons (pv 8) pa_nil))))) (pss_one (ps_ret pe_bl)) pss_nil)
      (pss_cons (ps_set (i := 10) sc_law.nd rfl (.inl rfl) (pe_ix ix_tup (pe_tup (pa_cons pe_int (pa_cons pe_int (pa_cons pe_int (pa_cons pe_int (pa_cons pe_int (pa_cons pe_int (pa_cons pe_int (pa_cons pe_int pa_nil))))))))) (C8.pe_c C__law_draw hr (by omega) rfl (pa_cons (pv 1) (pa_cons pe_int pa_nil))) (fun _ _ => rfl)))
      (pss_cons (ps_set (i := 4) sc_law.nd rfl (.inl rfl) (pe_op op_add (pe_op op_add pe_int (C8.pe_c C__law_draw hr (by omega) rfl (pa_cons (pv 1) (pa_cons (pe_op op_sub (pv 10) pe_int) pa_nil)))) (pe_op op_mul (pv 10) (pe_op op_sub (C8.pe_c C__law_draw hr (by omega) rfl (pa_cons (pv 1) (pa_cons pe_int pa_nil))) pe_int))))
      (pss_cons (ps_set (i := 11) sc_law.nd rfl (.inl rfl) (C8.pe_c C_inverse hr (by omega) rfl (pa_cons (pv 4) (pa_cons (pv 10) pa_nil))))
      (pss_one (ps_ret (pe_and (C8.pe_c C__law_same hr (by omega) rfl (pa_cons (pe_op op_mod (pe_callTy call_int1 (by rfl) B.int bt_int (pa_cons (pe_op op_mul (pv 11) (pv 4)) pa_nil)) (pv 10)) (pa_cons (pe_op op_mod (pe_callTy call_int1 (by rfl) B.int bt_int (pa_cons pe_int pa_nil)) (pv 10)) pa_nil))) (pe_one (pe_chain op_lt op_lt pe_int (pv 11) (pv 10))))))))))))))))), ?_⟩
    walk_at "go"
    refine ⟨_, _, _, rfl, hS, fun p c H1 _ _ hP => ?_⟩
    walk_at "go"
    refine for_range (fun i σ' H' => At (∃ y2 y3 y4, σ' = [some (.ref a), some (.ref p), y2, y3, y4, none, none, none, none, none, none, none] ∧ PoolAt H' p c)) (.of ⟨_, _, _, rfl, hP⟩) ?_ ?_
    · rintro i σ' H' hi hW
      obtain ⟨y2, y3, y4, rfl, hP⟩ := hW.out
      walk_at "go"
      intro t2 n2
      have s2 := same_new (o := .tup ([53, 59, 61, 67, 71, 97, 101, 499, 991, 997].map V.int)) n2
      have hP2 := hP.same s2
      have hT : ∀ H3, Keep (upd H' t2 (.tup ([53, 59, 61, 67, 71, 97, 101, 499, 991, 997].map V.int))) H3 → H3 t2 = some (.tup ([53, 59, 61, 67, 71, 97, 101, 499, 991, 997].map V.int)) := fun H3 k => k _ _ upd_same rfl
      walk_at "go"
      refine ⟨_, _, _, rfl, hP2, by omega, by omega, fun v1 H3 a1 b1 hP3 k3 => ?_⟩
      obtain ⟨x1, m1, e1⟩ := at_ints (ns := [53, 59, 61, 67, 71, 97, 101, 499, 991, 997]) a1 b1
      refine ⟨_, _, _, _, rfl, rfl, SqT.of (hT _ k3), e1, ?_⟩
      walk_at "go"
      refine ⟨_, _, _, rfl, hP3, by omega, by omega, fun v2 H4 a2 b2 hP4 k4 => ?_⟩
      obtain ⟨x2, m2, e2⟩ := at_ints (ns := [53, 59, 61, 67, 71, 97, 101, 499, 991, 997]) a2 b2
      refine ⟨_, _, _, _, rfl, rfl, SqT.of (hT _ (k3.trans k4)), e2, ?_⟩
      have bd : ∀ x : Int, x ∈ [53, 59, 61, 67, 71, 97, 101, 499, 991, 997] → 0 ≤ x ∧ x ≤ 997 := by decide
      have c1 := bd _ m1
      have c2 := bd _ m2
      have c3 : 0 ≤ x1 * x2 ∧ x1 * x2 ≤ 997 * 997 := ⟨Int.mul_nonneg c1.1 c2.1, Int.mul_le_mul c1.2 c2.2 c2.1 (by omega)⟩
      walk_at "go"
      refine ⟨_, _, _, rfl, hP4, by omega, by omega, fun w1 H5 p1 q1 hP5 k5 => ?_⟩
      walk_at "go"
      refine ⟨_, _, _, rfl, hP5, by omega, by omega, fun w2 H6 p2 q2 hP6 k6 => ?_⟩
      walk_at "go"
      refine ⟨_, _, _, rfl, hP6, by omega, by omega, fun w3 H7 p3 q3 hP7 k7 => ?_⟩
      walk_at "go"
      intro t3 n3
      have s3 := same_new (o := .tup ([w1, w2, w3, x1 * x2].map V.int)) n3
      have hP8 := hP7.same s3
      walk_at "go"
      refine ⟨_, _, _, rfl, hP8, by omega, by omega, fun w4 H9 p4 q4 hP9 k9 => ?_⟩
      obtain ⟨x, m, e⟩ := at_ints (ns := [w1, w2, w3, x1 * x2]) p4 q4
      have bx : 0 ≤ x ∧ x ≤ 1000000 := by
        simp only [List.mem_cons, List.not_mem_nil, or_false] at m
        omega
      refine ⟨_, _, _, _, rfl, rfl, SqT.of (k9 _ _ upd_same rfl), e, ?_⟩
      walk_at "go"
      intro b hb
      walk_at "go"
      intro b' hb'
      walk_at "go"
      refine ⟨_, _, _, _, rfl, .bl _, .bl _, trivial, fun r hr => ?_⟩
      have e3 : r = true := hr.mpr (congrArg PyData.bool (by rw [Bool.eq_iff_iff, hb, hb']))
      subst e3
      walk_at "go"
      exact .of ⟨_, _, _, rfl, hP9⟩
    · intro σ' H' hW
      obtain ⟨y2, y3, y4, rfl, hP⟩ := hW.out
      walk_at "go"
      refine ⟨_, _, _, rfl, hP, by omega, by omega, fun w1 H5 p1 q1 hP5 k5 => ?_⟩
      walk_at "go"
      refine ⟨_, _, _, rfl, hP5, by omega, by omega, fun w2 H6 p2 q2 hP6 k6 => ?_⟩
      walk_at "go"
      refine ⟨_, _, _, rfl, hP6, by omega, by omega, fun w3 H7 p3 q3 hP7 k7 => ?_⟩
      walk_at "go"
      have hm : 0 < 1 + w1 := by omega
      refine for_range (fun i σ' H' => At (∃ y9, σ' = [some (.ref a), some (.ref p), y2, y3, y4, some (.int (1 + w1)), some (.int w2), some (.int w3), some (.int (w2 ^ i % (1 + w1))), y9, none, none] ∧ PoolAt H' p c)) (.of ⟨_, (by rw [Int.pow_zero]; rfl), hP7⟩) ?_ ?_
      · rintro i σ' H' hi hW
        obtain ⟨y9, rfl, hP⟩ := hW.out
        have bm := emod_bd (a := w2 ^ i) hm
        walk_at "go"
        refine .of ⟨some (.int (0 + (i : Int))), ?_, hP⟩
        rw [Int.pow_succ, ← mul_emod_l]
        rfl
      · intro σ' H' hW
        obtain ⟨y9, rfl, hP⟩ := hW.out
        walk_at "go"
        refine ⟨_, _, _, rfl, by omega, hm, by omega, ?_⟩
        walk_at "go"
        refine ⟨_, _, _, _, rfl, .int _, .int _, trivial, fun r hr => ?_⟩
        have e3 : r = true := hr.mpr rfl
        subst e3
        walk_at "go"
        intro t3 n3
        have s3 := same_new (o := .tup ([2, 3, 5, 7, 11, 101, 607, 1999].map V.int)) n3
        have hP8 := hP.same s3
        walk_at "go"
        refine ⟨_, _, _, rfl, hP8, by omega, by omega, fun w4 H9 p4 q4 hP9 k9 => ?_⟩
        obtain ⟨x, m, e⟩ := at_ints (ns := [2, 3, 5, 7, 11, 101, 607, 1999]) p4 q4
        have bx : 2 ≤ x ∧ x ≤ 1999 := by
          have : ∀ x : Int, x ∈ [2, 3, 5, 7, 11, 101, 607, 1999] → 2 ≤ x ∧ x ≤ 1999 := by decide
          exact this x m
        refine ⟨_, _, _, _, rfl, rfl, SqT.of (k9 _ _ upd_same rfl), e, ?_⟩
        walk_at "go"
        refine ⟨_, _, _, rfl, hP9, by omega, by omega, fun w5 H10 p5 q5 hP10 k10 => ?_⟩
        walk_at "go"
        refine ⟨_, _, _, rfl, hP10, by omega, by omega, fun w6 H11 p6 q6 hP11 k11 => ?_⟩
        walk_at "go"
        obtain ⟨f1, f2, f3, f4, f5⟩ := fermat_int (x := 1 + w5 + x * (w6 - 2)) m p5 q5 rfl
        walk_at "go"
        refine ⟨_, _, _, _, rfl, .int _, .int _, trivial, fun r hr => ?_⟩
        have e3 : r = true := hr.mpr (congrArg PyData.int f3)
        subst e3
        walk_at "go"
        refine iteD (fun _ => ?_) (fun z => absurd f4 z)
        walk_at "go"
        show Q (.bl (decide (_ < x))) _
        rw [decide_eq_true f5]
        exact q _
end
/-! ### the end -/
theorem all_mk {l : PySem.W.OpenLaw} {w : World} {K : PySem.W.Frag} {h : Heap} {mg : Str → Option Value} {fa f0 f1 f2 f3 f4 f5 f6 f7 : Addr} (X : K.In h) (G : h.Ns mainGlobals mg) (hfa : mg "law" = some (.ref fa))
    {od0 an0 od1 an1 od2 an2 od3 an3 od4 an4 od5 an5 od6 an6 od7 an7 : Option Addr} {sl0 sl1 sl2 sl3 sl4 sl5 sl6 sl7 : Array (Option Value)} {oc0 kV0 dc0 pm0 cd0 ct0 oc1 kV1 dc1 pm1 cd1 ct1 oc2 kV2 dc2 pm2 cd2 ct2 oc3 kV3 dc3 pm3 cd3 ct3 oc4 kV4 dc4 pm4 cd4 ct4 oc5 kV5 dc5 pm5 cd5 ct5 oc6 kV6 dc6 pm6 cd6 ct6 oc7 kV7 dc7 pm7 cd7 ct7 : Value}
    (a0 : PySem.W.nsIn K mainGlobals "power" = some (some (.ref f0))) (l0 : K.lookup f0 = some ⟨oc0, od0, .func (PySem.W.fnOf "power" "power" (defArgs s_power) (defBody s_power) (defScope s_power) .none kV0 dc0 pm0 an0 cd0 ct0), sl0⟩) (c0 : PySem.W.codeIn K cd0 "power" = true) (k0 : PySem.W.keepIn K (.ref f0) = true)
    (a1 : PySem.W.nsIn K mainGlobals "is_prime" = some (some (.ref f1))) (l1 : K.lookup f1 = some ⟨oc1, od1, .func (PySem.W.fnOf "is_prime" "is_prime" (defArgs s_is_prime) (defBody s_is_prime) (defScope s_is_prime) .none kV1 dc1 pm1 an1 cd1 ct1), sl1⟩) (c1 : PySem.W.codeIn K cd1 "is_prime" = true) (k1 : PySem.W.keepIn K (.ref f1) = true)
    (a2 : PySem.W.nsIn K mainGlobals "inverse" = some (some (.ref f2))) (l2 : K.lookup f2 = some ⟨oc2, od2, .func (PySem.W.fnOf "inverse" "inverse" (defArgs s_inverse) (defBody s_inverse) (defScope s_inverse) .none kV2 dc2 pm2 an2 cd2 ct2), sl2⟩) (c2 : PySem.W.codeIn K cd2 "inverse" = true) (k2 : PySem.W.keepIn K (.ref f2) = true)
    (a3 : PySem.W.nsIn K mainGlobals "_law_pool" = some (some (.ref f3))) (l3 : K.lookup f3 = some ⟨oc3, od3, .func (PySem.W.fnOf "_law_pool" "_law_pool" (defArgs s__law_pool) (defBody s__law_pool) (defScope s__law_pool) .none kV3 dc3 pm3 an3 cd3 ct3), sl3⟩) (c3 : PySem.W.codeIn K cd3 "_law_pool" = true) (k3 : PySem.W.keepIn K (.ref f3) = true)
    (a4 : PySem.W.nsIn K mainGlobals "_law_draw" = some (some (.ref f4))) (l4 : K.lookup f4 = some ⟨oc4, od4, .func (PySem.W.fnOf "_law_draw" "_law_draw" (defArgs s__law_draw) (defBody s__law_draw) (defScope s__law_draw) .none kV4 dc4 pm4 an4 cd4 ct4), sl4⟩) (c4 : PySem.W.codeIn K cd4 "_law_draw" = true) (k4 : PySem.W.keepIn K (.ref f4) = true)
    (a5 : PySem.W.nsIn K mainGlobals "_law_same" = some (some (.ref f5))) (l5 : K.lookup f5 = some ⟨oc5, od5, .func (PySem.W.fnOf "_law_same" "_law_same" (defArgs s__law_same) (defBody s__law_same) (defScope s__law_same) .none kV5 dc5 pm5 an5 cd5 ct5), sl5⟩) (c5 : PySem.W.codeIn K cd5 "_law_same" = true) (k5 : PySem.W.keepIn K (.ref f5) = true)
    (a6 : PySem.W.nsIn K mainGlobals "_law_prime" = some (some (.ref f6))) (l6 : K.lookup f6 = some ⟨oc6, od6, .func (PySem.W.fnOf "_law_prime" "_law_prime" (defArgs s__law_prime) (defBody s__law_prime) (defScope s__law_prime) .none kV6 dc6 pm6 an6 cd6 ct6), sl6⟩) (c6 : PySem.W.codeIn K cd6 "_law_prime" = true) (k6 : PySem.W.keepIn K (.ref f6) = true)
    (a7 : PySem.W.nsIn K mainGlobals "law" = some (some (.ref f7))) (l7 : K.lookup f7 = some ⟨oc7, od7, .func (PySem.W.fnOf "law" "law" (defArgs s_law) (defBody s_law) (defScope s_law) .none kV7 dc7 pm7 an7 cd7 ct7), sl7⟩) (c7 : PySem.W.codeIn K cd7 "law" = true) (k7 : PySem.W.keepIn K (.ref f7) = true)
    (z_isinstance : PySem.W.nsIn K mainGlobals "isinstance" = some none)
    (z_len : PySem.W.nsIn K mainGlobals "len" = some none)
    (z_sum : PySem.W.nsIn K mainGlobals "sum" = some none)
    (z_max : PySem.W.nsIn K mainGlobals "max" = some none)
    (z_min : PySem.W.nsIn K mainGlobals "min" = some none)
    (z_abs : PySem.W.nsIn K mainGlobals "abs" = some none)
    (z_any : PySem.W.nsIn K mainGlobals "any" = some none)
    (z_all : PySem.W.nsIn K mainGlobals "all" = some none)
    (z_sorted : PySem.W.nsIn K mainGlobals "sorted" = some none)
    (z_int : PySem.W.nsIn K mainGlobals "int" = some none)
    (z_bool : PySem.W.nsIn K mainGlobals "bool" = some none)
    (z_str : PySem.W.nsIn K mainGlobals "str" = some none)
    (z_list : PySem.W.nsIn K mainGlobals "list" = some none)
    (z_tuple : PySem.W.nsIn K mainGlobals "tuple" = some none)
    (z_dict : PySem.W.nsIn K mainGlobals "dict" = some none)
    (z_range : PySem.W.nsIn K mainGlobals "range" = some none)
    (z_enumerate : PySem.W.nsIn K mainGlobals "enumerate" = some none)
    (z_zip : PySem.W.nsIn K mainGlobals "zip" = some none) :
    ∃ fd : FuncData, (∀ (s : Shared) (v : Value), BindsTo s fd ⟨[v], []⟩ [("script", v)]) ∧ ∀ base : Heap, K.In base → base.Ns mainGlobals mg → FnOk l.prog w K mg base CX0 3 fa fd ["script"] (spLaw K) := by
  have e := hfa.symm.trans (PySem.W.mg_of X G a7)
  cases e
  have B : Blt mg := ⟨PySem.W.mg_none_of X G z_isinstance, PySem.W.mg_none_of X G z_len, PySem.W.mg_none_of X G z_sum, PySem.W.mg_none_of X G z_max, PySem.W.mg_none_of X G z_min, PySem.W.mg_none_of X G z_abs, PySem.W.mg_none_of X G z_any, PySem.W.mg_none_of X G z_all, PySem.W.mg_none_of X G z_sorted, PySem.W.mg_none_of X G z_int, PySem.W.mg_none_of X G z_bool, PySem.W.mg_none_of X G z_str, PySem.W.mg_none_of X G z_list, PySem.W.mg_none_of X G z_tuple, PySem.W.mg_none_of X G z_dict, PySem.W.mg_none_of X G z_range, PySem.W.mg_none_of X G z_enumerate, PySem.W.mg_none_of X G z_zip⟩
  have F0 := fun_mk (st := s_power) l0 c0 k0
  have b0 := F0.binds (ps := ["base", "exponent", "modulus"]) fun _ _ _ _ _ _ us hl => match us, hl with | [_, _, _], _ => rfl
  have m0 := PySem.W.mg_of X G a0
  have F1 := fun_mk (st := s_is_prime) l1 c1 k1
  have b1 := F1.binds (ps := ["number"]) fun _ _ _ _ _ _ us hl => match us, hl with | [_], _ => rfl
  have m1 := PySem.W.mg_of X G a1
  have F2 := fun_mk (st := s_inverse) l2 c2 k2
  have b2 := F2.binds (ps := ["number", "prime"]) fun _ _ _ _ _ _ us hl => match us, hl with | [_, _], _ => rfl
  have m2 := PySem.W.mg_of X G a2
  have F3 := fun_mk (st := s__law_pool) l3 c3 k3
  have b3 := F3.binds (ps := ["script", "budget"]) fun _ _ _ _ _ _ us hl => match us, hl with | [_, _], _ => rfl
  have m3 := PySem.W.mg_of X G a3
  have F4 := fun_mk (st := s__law_draw) l4 c4 k4
  have b4 := F4.binds (ps := ["pool", "size"]) fun _ _ _ _ _ _ us hl => match us, hl with | [_, _], _ => rfl
  have m4 := PySem.W.mg_of X G a4
  have F5 := fun_mk (st := s__law_same) l5 c5 k5
  have b5 := F5.binds (ps := ["actual", "due"]) fun _ _ _ _ _ _ us hl => match us, hl with | [_, _], _ => rfl
  have m5 := PySem.W.mg_of X G a5
  have F6 := fun_mk (st := s__law_prime) l6 c6 k6
  have b6 := F6.binds (ps := ["number"]) fun _ _ _ _ _ _ us hl => match us, hl with | [_], _ => rfl
  have m6 := PySem.W.mg_of X G a6
  have F7 := fun_mk (st := s_law) l7 c7 k7
  have b7 := F7.binds (ps := ["script"]) fun _ _ _ _ _ _ us hl => match us, hl with | [_], _ => rfl
  have m7 := PySem.W.mg_of X G a7
  refine ⟨PySem.W.fnOf "law" "law" (defArgs s_law) (defBody s_law) (defScope s_law) .none kV7 dc7 pm7 an7 cd7 ct7, fun s v => .of_eq rfl, fun base _ _ => ?_⟩
  have C_power : C8.Cal l.prog w K mg base 1 "power" spPower [] := ⟨⟨_, _, _, [], ok_power F0 , m0, k0, b0, .nil⟩⟩
  have C_is_prime : C8.Cal l.prog w K mg base 1 "is_prime" spIsPrime [] := ⟨⟨_, _, _, [], ok_is_prime F1 , m1, k1, b1, .nil⟩⟩
  have C_inverse : C8.Cal l.prog w K mg base 2 "inverse" spInverse [] := ⟨⟨_, _, _, [], ok_inverse F2 C_power, m2, k2, b2, .nil⟩⟩
  have C__law_pool : C8.Cal l.prog w K mg base 1 "_law_pool" (spPool K) [] := ⟨⟨_, _, _, [], ok_law_pool F3 B, m3, k3, b3, .nil⟩⟩
  have C__law_draw : C8.Cal l.prog w K mg base 1 "_law_draw" spDraw [] := ⟨⟨_, _, _, [], ok_law_draw F4 B, m4, k4, b4, .nil⟩⟩
  have C__law_same : C8.Cal l.prog w K mg base 1 "_law_same" (spSame 1) [] := ⟨⟨_, _, _, [], ok_law_same F5 B m5 b5 1, m5, k5, b5, .nil⟩⟩
  have C__law_prime : C8.Cal l.prog w K mg base 1 "_law_prime" spLawPrime [] := ⟨⟨_, _, _, [], ok_law_prime F6 B, m6, k6, b6, .nil⟩⟩
  exact ok_law F7 B C__law_pool C__law_draw C__law_same C_is_prime C__law_prime C_power C_inverse
theorem walk {l : PySem.W.OpenLaw} {q : Program} {loose : List Str} {XP : (Str → Option Value) → Heap → Prop} {YP : World → Heap → Prop} {d : DefRec} {K : Params → PySem.W.Frag} (hn : l.most = some 63) (hdf : d.params.defaults = [])
    (hY : ∀ (w : World) (h : Heap), YP w h → (K w.params).In h)
    (F : ∀ (w : World) (mg : Str → Option Value) (fa : Addr) (h : Heap), (K w.params).In h → h.Ns mainGlobals mg → mg d.name = some (.ref fa) →
      ∃ fd : FuncData, (∀ (s : Shared) (u : Value), BindsTo s fd ⟨[u], []⟩ [("script", u)]) ∧ ∀ base : Heap, (K w.params).In base → base.Ns mainGlobals mg → FnOk l.prog w (K w.params) mg base CX0 3 fa fd ["script"] (spLaw (K w.params))) :
    PySem.W.WalkO q loose XP YP l.row.toRowW d [] (fun f vs => PySem.call f vs) :=
  L2.walk_of (n := 63) (k := 3) (x := "script") (CX := fun _ => CX0) (sp := fun w => spLaw (K w.params)) hn (by decide) hdf ⟨rfl, by decide, by decide⟩ hY F (fun _ _ a ns hl _ hS => ⟨a, ns, rfl, hS, fun _ => rfl⟩) fun _ _ _ _ _ z => z
end My
open PySem PySem.W PyProof.Rows
set_option maxRecDepth 100000 in
set_option maxHeartbeats 0 in
theorem PySem.Challenge.cw_vouchdoor_k00_primes_powers_and_inverses_holds : PySem.Challenge.rw_vouchdoor_k00_primes_powers_and_inverses.Holds := by
  w_on; o_law; k_head; (case hw => w_witness2)
  k_fill
  refine My.walk (l := PySem.Challenge.rw_vouchdoor_k00_primes_powers_and_inverses) rfl rfl (fun w h Y => PySem.W.kIn_of Y) ?F
  case F =>
    intro w mg fa h KX G hmg
    refine' My.all_mk KX G hmg ?a0 ?l0 ?c0 ?k0 ?a1 ?l1 ?c1 ?k1 ?a2 ?l2 ?c2 ?k2 ?a3 ?l3 ?c3 ?k3 ?a4 ?l4 ?c4 ?k4 ?a5 ?l5 ?c5 ?k5 ?a6 ?l6 ?c6 ?k6 ?a7 ?l7 ?c7 ?k7 ?z_isinstance ?z_len ?z_sum ?z_max ?z_min ?z_abs ?z_any ?z_all ?z_sorted ?z_int ?z_bool ?z_str ?z_list ?z_tuple ?z_dict ?z_range ?z_enumerate ?z_zip
    (case a0 => k_is)
    (case l0 => k_is)
    (case c0 => k_is)
    (case k0 => k_is)
    (case a1 => k_is)
    (case l1 => k_is)
    (case c1 => k_is)
    (case k1 => k_is)
    (case a2 => k_is)
    (case l2 => k_is)
    (case c2 => k_is)
    (case k2 => k_is)
    (case a3 => k_is)
    (case l3 => k_is)
    (case c3 => k_is)
    (case k3 => k_is)
    (case a4 => k_is)
    (case l4 => k_is)
    (case c4 => k_is)
    (case k4 => k_is)
    (case a5 => k_is)
    (case l5 => k_is)
    (case c5 => k_is)
    (case k5 => k_is)
    (case a6 => k_is)
    (case l6 => k_is)
    (case c6 => k_is)
    (case k6 => k_is)
    (case a7 => k_is)
    (case l7 => k_is)
    (case c7 => k_is)
    (case k7 => k_is)
    (case z_isinstance => k_is)
    (case z_len => k_is)
    (case z_sum => k_is)
    (case z_max => k_is)
    (case z_min => k_is)
    (case z_abs => k_is)
    (case z_any => k_is)
    (case z_all => k_is)
    (case z_sorted => k_is)
    (case z_int => k_is)
    (case z_bool => k_is)
    (case z_str => k_is)
    (case z_list => k_is)
    (case z_tuple => k_is)
    (case z_dict => k_is)
    (case z_range => k_is)
    (case z_enumerate => k_is)
    (case z_zip => k_is)
