import PyProof.Rows.All
import Wide.All
import OpenK.AllK
import Wide.FinOn
import HandS.ForMost
import HandS.IsInst
import HandS.Codes
import HandS.Zip
import KE.GoesEnum
import KE.KDictZip
import KE.KItemsList
import HandS.OwnEq
import HandS.Style
import HandS.TupAny
import HandS.Strs
import HandS.Conv
import HandS.Star
import PyProof.SumWalkG
import HandS.Exc
import HandS.ExcOwn
import HandS.TryOnly
import HandS.WordsExc
import HandS.ExcField
import HandS.ExcIs
import HandS.ExcInit
import KE.KExcIs
import HandS.DictComp
import HandS.More
import PyProof.TupleKey
import PyProof.DictRoadsH
import KE.KUnpackStar
import HandS.Deep
import HandS.Sort
import PyProof.RangeFor
import PyProof.ListRange
import KE.KStateDown
import HandS.Base
import HandS.Call
import HandS.Ends
import HandS.Words
import HandS.Defaults
import HandS.Head0
import HandS.Head1
import HandS.Head2
import HandS.HeadEnd
import HandS.HeadHook1
import PySem.Challenge.RW_vouchdoor_k50_picks_of_a_wallet
set_option Elab.async false
set_option linter.all false
set_option maxRecDepth 100000
namespace My
open PySem PySem.Spec PyProof.Rows L2
section
variable {prog : Program} {w : World} {A : Around} {E : Value → Shared → Prop} {s : Shared}
/-- an iterator over a list (false) or a tuple (true) -/
def ItK (k : Bool) (h : Heap) (it l : Addr) (i : Nat) : Prop := match k with
  | true => h.IsTupleIter it l i
  | false => h.IsListIter it l i
def SeK (k : Bool) (h : Heap) (l : Addr) (its : Array Value) : Prop := match k with
  | true => h.IsTuple l its
  | false => h.IsList l its
abbrev StK (k : Bool) (it l : Addr) (its : Array Value) : Nat → Heap → Prop := fun i h => ItK k h it l i ∧ SeK k h l its
theorem drK (k : Bool) (hh : A.handled = none) {it l : Addr} (ne : l ≠ it) (its : Array Value) : Draws prog w A it [it, l] its.size (fun i v => its[i]? = some v) (StK k it l its) := by
  cases k with
  | true => exact Draws.tuple hh it l ne its
  | false => exact Draws.list hh it l ne its
theorem SeK.at {k : Bool} {h h' : Heap} {l : Addr} {its : Array Value} (x : SeK k h l its) (q : ∀ o, h.get? l = some o → h'.get? l = some o) : SeK k h' l its := by
  cases k with
  | true => exact Heap.IsTuple.at (show h.IsTuple l its from x) q
  | false => exact Heap.IsList.at (show h.IsList l its from x) q
theorem ItK.at {k : Bool} {h h' : Heap} {it l : Addr} {i : Nat} (x : ItK k h it l i) (q : ∀ o, h.get? it = some o → h'.get? it = some o) : ItK k h' it l i := by
  cases k with
  | true => exact Heap.IsTupleIter.at (show h.IsTupleIter it l i from x) q
  | false => exact Heap.IsListIter.at (show h.IsListIter it l i from x) q
theorem ItK.obj {k : Bool} {h : Heap} {it l : Addr} {i : Nat} (x : ItK k h it l i) : ∃ o, h.get? it = some o ∧ ∀ v, o.data ≠ .cell v := by
  cases k with
  | true =>
    obtain ⟨o, e, _, d⟩ := x
    exact ⟨o, e, fun v q => by rw [d] at q; cases q⟩
  | false =>
    obtain ⟨o, e, _, d⟩ := x
    exact ⟨o, e, fun v q => by rw [d] at q; cases q⟩
theorem SeK.lt {k : Bool} {h : Heap} {l : Addr} {its : Array Value} (x : SeK k h l its) : l < h.objs.size := by
  cases k with
  | true =>
    obtain ⟨o, e, _⟩ := x
    exact Heap.lt_size e
  | false =>
    obtain ⟨o, e, _⟩ := x
    exact Heap.lt_size e
end
def SqK (k : Bool) (K : PySem.W.Frag) (H : Hp) (a : Addr) (xs : List V) : Prop := match k with
  | true => SqT K H a xs
  | false => SqL K H a xs
section
variable {X : Cx} {pins : List (Addr × Obj)} {σ : L2.St} {H : Hp} {s : Shared}
theorem seqK {k : Bool} {a : Addr} {xs : List V} (I : Inv X pins σ H s) (h : SqK k X.K H a xs) : ∃ its : List Value, Vals xs its ∧ SeK k s.heap a its.toArray ∧ xs.length ≤ sizeLine := by
  cases k with
  | true =>
    obtain ⟨its, r, p, z⟩ := I.tuple h
    exact ⟨its, r, p, z⟩
  | false =>
    obtain ⟨its, r, p, z⟩ := I.list h
    exact ⟨its, r, p.isList, z⟩
theorem seqK_inj {k : Bool} {a : Addr} {xs ys : List V} (I : Inv X pins σ H s) (h : SqK k X.K H a xs) (h' : SqK k X.K H a ys) : xs = ys := by
  cases k with
  | true => exact I.tuple_inj h h'
  | false => exact I.list_inj h h'
end
theorem pow_emod (a m : Int) : ∀ n : Nat, (a % m) ^ n % m = a ^ n % m
  | 0 => by rw [Int.pow_zero, Int.pow_zero]
  | n + 1 => by
    rw [Int.pow_succ, Int.pow_succ, Int.mul_emod, pow_emod a m n, Int.emod_emod, ← Int.mul_emod]
theorem mul_emod_l (a b m : Int) : (a % m) * b % m = a * b % m := by
  rw [Int.mul_emod, Int.emod_emod, ← Int.mul_emod]
theorem mul_emod_r (a b m : Int) : a * (b % m) % m = a * b % m := by
  rw [Int.mul_emod, Int.emod_emod, ← Int.mul_emod]
theorem emod_bd {a m : Int} (h : 0 < m) : 0 ≤ a % m ∧ a % m < m := ⟨Int.emod_nonneg _ (by omega), Int.emod_lt_of_pos _ h⟩
theorem sq_pow (s : Int) : ∀ k : Nat, (s * s) ^ k = s ^ (2 * k)
  | 0 => by rw [Int.pow_zero, Int.pow_zero]
  | k + 1 => by
    rw [Int.pow_succ, sq_pow s k, show 2 * (k + 1) = 2 * k + 1 + 1 by omega, Int.pow_succ, Int.pow_succ, Int.mul_assoc]
theorem power_odd {r s m t : Int} {n : Nat} (h : r * s ^ n % m = t % m) (o : n % 2 = 1) : (r * s % m) * (s * s % m) ^ (n / 2) % m = t % m := by
  rw [mul_emod_l, ← mul_emod_r, pow_emod, mul_emod_r, sq_pow, Int.mul_assoc, ← h]
  congr 1
  rw [show n = 2 * (n / 2) + 1 by omega, show 2 * ((2 * (n / 2) + 1) / 2) = 2 * (n / 2) by omega, Int.pow_succ, Int.mul_comm s]
theorem power_even {r s m t : Int} {n : Nat} (h : r * s ^ n % m = t % m) (o : ¬ n % 2 = 1) : r * (s * s % m) ^ (n / 2) % m = t % m := by
  rw [← mul_emod_r, pow_emod, mul_emod_r, sq_pow, ← h]
  congr 2
  rw [show 2 * (n / 2) = n by omega]
theorem iteD {p A B : Prop} [Decidable p] (h1 : p → A) (h2 : ¬ p → B) : if decide p = true then A else B := by
  by_cases h : p
  · rw [if_pos (decide_eq_true h)]
    exact h1 h
  · rw [if_neg (by rw [decide_eq_false h]; exact Bool.false_ne_true)]
    exact h2 h
theorem kit_NoneType_tuple {K : PySem.W.Frag} : PySem.W.kitOne K (.type "NoneType") (.type "tuple") = some false := kit_ty (by decide +kernel)
theorem kit_NoneType_list {K : PySem.W.Frag} : PySem.W.kitOne K (.type "NoneType") (.type "list") = some false := kit_ty (by decide +kernel)
theorem kit_NoneType_bool {K : PySem.W.Frag} : PySem.W.kitOne K (.type "NoneType") (.type "bool") = some false := kit_ty (by decide +kernel)
theorem kit_NoneType_int {K : PySem.W.Frag} : PySem.W.kitOne K (.type "NoneType") (.type "int") = some false := kit_ty (by decide +kernel)
theorem kit_NoneType_str {K : PySem.W.Frag} : PySem.W.kitOne K (.type "NoneType") (.type "str") = some false := kit_ty (by decide +kernel)
theorem kit_bool_tuple {K : PySem.W.Frag} : PySem.W.kitOne K (.type "bool") (.type "tuple") = some false := kit_ty (by decide +kernel)
theorem kit_bool_list {K : PySem.W.Frag} : PySem.W.kitOne K (.type "bool") (.type "list") = some false := kit_ty (by decide +kernel)
theorem kit_bool_bool {K : PySem.W.Frag} : PySem.W.kitOne K (.type "bool") (.type "bool") = some true := kit_ty (by decide +kernel)
theorem kit_bool_int {K : PySem.W.Frag} : PySem.W.kitOne K (.type "bool") (.type "int") = some true := kit_ty (by decide +kernel)
theorem kit_bool_str {K : PySem.W.Frag} : PySem.W.kitOne K (.type "bool") (.type "str") = some false := kit_ty (by decide +kernel)
theorem kit_int_tuple {K : PySem.W.Frag} : PySem.W.kitOne K (.type "int") (.type "tuple") = some false := kit_ty (by decide +kernel)
theorem kit_int_list {K : PySem.W.Frag} : PySem.W.kitOne K (.type "int") (.type "list") = some false := kit_ty (by decide +kernel)
theorem kit_int_bool {K : PySem.W.Frag} : PySem.W.kitOne K (.type "int") (.type "bool") = some false := kit_ty (by decide +kernel)
theorem kit_int_int {K : PySem.W.Frag} : PySem.W.kitOne K (.type "int") (.type "int") = some true := kit_ty (by decide +kernel)
theorem kit_int_str {K : PySem.W.Frag} : PySem.W.kitOne K (.type "int") (.type "str") = some false := kit_ty (by decide +kernel)
theorem kit_str_tuple {K : PySem.W.Frag} : PySem.W.kitOne K (.type "str") (.type "tuple") = some false := kit_ty (by decide +kernel)
theorem kit_str_list {K : PySem.W.Frag} : PySem.W.kitOne K (.type "str") (.type "list") = some false := kit_ty (by decide +kernel)
theorem kit_str_bool {K : PySem.W.Frag} : PySem.W.kitOne K (.type "str") (.type "bool") = some false := kit_ty (by decide +kernel)
theorem kit_str_int {K : PySem.W.Frag} : PySem.W.kitOne K (.type "str") (.type "int") = some false := kit_ty (by decide +kernel)
theorem kit_str_str {K : PySem.W.Frag} : PySem.W.kitOne K (.type "str") (.type "str") = some true := kit_ty (by decide +kernel)
theorem kit_list_tuple {K : PySem.W.Frag} : PySem.W.kitOne K (.type "list") (.type "tuple") = some false := kit_ty (by decide +kernel)
theorem kit_list_list {K : PySem.W.Frag} : PySem.W.kitOne K (.type "list") (.type "list") = some true := kit_ty (by decide +kernel)
theorem kit_list_bool {K : PySem.W.Frag} : PySem.W.kitOne K (.type "list") (.type "bool") = some false := kit_ty (by decide +kernel)
theorem kit_list_int {K : PySem.W.Frag} : PySem.W.kitOne K (.type "list") (.type "int") = some false := kit_ty (by decide +kernel)
theorem kit_list_str {K : PySem.W.Frag} : PySem.W.kitOne K (.type "list") (.type "str") = some false := kit_ty (by decide +kernel)
theorem kit_tuple_tuple {K : PySem.W.Frag} : PySem.W.kitOne K (.type "tuple") (.type "tuple") = some true := kit_ty (by decide +kernel)
theorem kit_tuple_list {K : PySem.W.Frag} : PySem.W.kitOne K (.type "tuple") (.type "list") = some false := kit_ty (by decide +kernel)
theorem kit_tuple_bool {K : PySem.W.Frag} : PySem.W.kitOne K (.type "tuple") (.type "bool") = some false := kit_ty (by decide +kernel)
theorem kit_tuple_int {K : PySem.W.Frag} : PySem.W.kitOne K (.type "tuple") (.type "int") = some false := kit_ty (by decide +kernel)
theorem kit_tuple_str {K : PySem.W.Frag} : PySem.W.kitOne K (.type "tuple") (.type "str") = some false := kit_ty (by decide +kernel)
theorem iteCT {c : Bool} {A B : Prop} (hc : c = true) (h : A) : if c = true then A else B := by
  rw [if_pos hc]
  exact h
theorem iteCF {c : Bool} {A B : Prop} (hc : c = false) (h : B) : if c = true then A else B := by
  rw [if_neg (by rw [hc]; exact Bool.false_ne_true)]
  exact h
theorem propOnly {p : Prop} (h : p) : p := h
/-- where the walk is to stop: between two turns of a loop -/
inductive At (p : Prop) : Prop where
  | of (h : p)
  | also (h : p)
theorem At.out {p : Prop} : At p → p
  | .of h => h
  | .also h => h
theorem len_size {n : Nat} (h : n ≤ 100000) : n < sizeLine := Nat.lt_of_le_of_lt h (by decide)
theorem same_new {H : Hp} {p : Addr} {o : HO} (h : H p = none) : Same H (upd H p o) := fun b x e => by
  rw [upd_ne (ne_of_none e h)]
  exact e
/-- the list of a pool, by its look: a reference, then an int -/
def poolV : List V → Bool
  | .ref _ :: .int _ :: _ => true
  | _ => false
def poolO : HO → Bool
  | .lst xs => poolV xs
  | _ => false
/-- all that was tracked is as it was, but for pools -/
def Keep (H H' : Hp) : Prop := ∀ b o, H b = some o → poolO o = false → H' b = some o
theorem Keep.refl (H : Hp) : Keep H H := fun _ _ h _ => h
theorem Keep.trans {H H1 H2 : Hp} (a : Keep H H1) (b : Keep H1 H2) : Keep H H2 := fun c o h p => b c o (a c o h p) p
mutual
inductive Rp (H : Hp) : V → PyData → Prop
  | non : Rp H .non .none
  | bl (b : Bool) : Rp H (.bl b) (.bool b)
  | int (i : Int) : Rp H (.int i) (.int i)
  | str (x : Str) : Rp H (.str x) (.str x)
  | lst {a : Addr} {xs : List V} {ds : List PyData} : H a = some (.lst xs) → poolV xs = false → RpAll H xs ds → Rp H (.ref a) (.list ds)
  | tup {a : Addr} {xs : List V} {ds : List PyData} : H a = some (.tup xs) → RpAll H xs ds → Rp H (.ref a) (.tuple ds)
inductive RpAll (H : Hp) : List V → List PyData → Prop
  | nil : RpAll H [] []
  | cons {v : V} {vs : List V} {d : PyData} {ds : List PyData} : Rp H v d → RpAll H vs ds → RpAll H (v :: vs) (d :: ds)
end
theorem RpAll.length {H : Hp} : ∀ {vs : List V} {ds : List PyData}, RpAll H vs ds → vs.length = ds.length
  | _, _, .nil => rfl
  | _, _, .cons _ r => congrArg (· + 1) (RpAll.length r)
theorem RpAll.get {H : Hp} : ∀ {vs : List V} {ds : List PyData} {i : Nat} {d : PyData}, RpAll H vs ds → ds[i]? = some d → ∃ v, vs[i]? = some v ∧ Rp H v d
  | _, _, _, _, .nil, e => by simp at e
  | _, _, 0, _, .cons a _, e => by
    simp only [List.getElem?_cons_zero, Option.some.injEq] at e
    subst e
    exact ⟨_, rfl, a⟩
  | _, _, i + 1, _, .cons _ r, e => by
    simp only [List.getElem?_cons_succ] at e
    obtain ⟨v, h1, h2⟩ := RpAll.get (i := i) r e
    exact ⟨v, h1, h2⟩
theorem RpAll.getV {H : Hp} : ∀ {vs : List V} {ds : List PyData} {i : Nat} {v : V}, RpAll H vs ds → vs[i]? = some v → ∃ d, ds[i]? = some d ∧ Rp H v d
  | _, _, _, _, .nil, e => by simp at e
  | _, _, 0, _, .cons a _, e => by
    simp only [List.getElem?_cons_zero, Option.some.injEq] at e
    subst e
    exact ⟨_, rfl, a⟩
  | _, _, i + 1, _, .cons _ r, e => by
    simp only [List.getElem?_cons_succ] at e
    obtain ⟨d, h1, h2⟩ := RpAll.getV (i := i) r e
    exact ⟨d, h1, h2⟩
/-- at p: the pool of a law, whatever it holds; its copy of the script at c -/
def PoolAt (H : Hp) (p c : Addr) : Prop := ∃ (ns : List Int) (i m s b z : Int),
  H p = some (.lst [.ref c, .int i, .int m, .int s, .int b, .int z]) ∧ H c = some (.lst (ns.map V.int)) ∧ 0 ≤ i ∧ 0 ≤ s ∧ s < 2147483647
theorem PoolAt.same {H H' : Hp} {p c : Addr} (s : Same H H') (h : PoolAt H p c) : PoolAt H' p c := by
  obtain ⟨ns, i, m, t, b, z, h1, h2, r⟩ := h
  exact ⟨ns, i, m, t, b, z, s _ _ h1, s _ _ h2, r⟩
/-- another list is changed beside it -/
theorem PoolAt.mut {H : Hp} {p c l : Addr} {o : HO} (h : PoolAt H p c) (n : l ≠ p) (nc : l ≠ c) : PoolAt (upd H l o) p c := by
  obtain ⟨ns, i, m, t, b, z, h1, h2, r⟩ := h
  exact ⟨ns, i, m, t, b, z, by rw [upd_ne n.symm]; exact h1, by rw [upd_ne nc.symm]; exact h2, r⟩
theorem PoolAt.at {H : Hp} {p c : Addr} (h : PoolAt H p c) : ∃ xs, H p = some (.lst xs) ∧ poolV xs = true := by
  obtain ⟨ns, i, m, t, b, z, h1, _⟩ := h
  exact ⟨_, h1, rfl⟩
theorem bt_isinstance : bootBuiltins "isinstance" = some (.builtin "isinstance") := by decide +kernel
theorem bt_len : bootBuiltins "len" = some (.builtin "len") := by decide +kernel
theorem bt_min : bootBuiltins "min" = some (.builtin "min") := by decide +kernel
theorem bt_int : bootBuiltins "int" = some (.type "int") := by decide +kernel
theorem bt_bool : bootBuiltins "bool" = some (.type "bool") := by decide +kernel
theorem bt_str : bootBuiltins "str" = some (.type "str") := by decide +kernel
theorem bt_list : bootBuiltins "list" = some (.type "list") := by decide +kernel
theorem bt_tuple : bootBuiltins "tuple" = some (.type "tuple") := by decide +kernel
structure Blt (mg : Str → Option Value) : Prop where
  isinstance : mg "isinstance" = none
  len : mg "len" = none
  sum : mg "sum" = none
  max : mg "max" = none
  min : mg "min" = none
  abs : mg "abs" = none
  any : mg "any" = none
  all : mg "all" = none
  sorted : mg "sorted" = none
  int : mg "int" = none
  bool : mg "bool" = none
  str : mg "str" = none
  list : mg "list" = none
  tuple : mg "tuple" = none
  dict : mg "dict" = none
  range : mg "range" = none
  enumerate : mg "enumerate" = none
  zip : mg "zip" = none
def rLen (K : PySem.W.Frag) : List V → Hp → VK → Prop := fun xs H Q => ∃ p ys, xs = [V.ref p] ∧ (SqL K H p ys ∨ SqT K H p ys) ∧ Q (.int (ys.length : Nat)) H
def rListOf (K : PySem.W.Frag) : List V → Hp → VK → Prop := fun xs H Q => ∃ p ys, xs = [V.ref p] ∧ (SqL K H p ys ∨ SqT K H p ys) ∧ ∀ l, H l = none → Q (.ref l) (upd H l (.lst ys))
section
variable {X : Cx} {K : PySem.W.Frag} {e o b : Expr} {es : List Expr} {ta to : TE} {t : TA} {f : Str} {pos : Pos}
theorem kfld (hK : X.K = K) (he : PE X e ta) (hb : attributeBase e f X.env (eval e X.env) = eval e X.env := by rfl) : PE X (.Attribute e f pos) (tFld K ta f) := by
  subst hK
  exact pe_fld he hb
theorem kixl (hK : X.K = K) : IxR X (rIxL K) := by
  subst hK
  exact ix_list
theorem kixs (hK : X.K = K) : IxR X (rIx K) := by
  subst hK
  exact ix_seq
theorem ksll (hK : X.K = K) : SlR X (rSlL K) := by
  subst hK
  exact sl_list
theorem kin (hK : X.K = K) : OpR X (compareOp .In) (rIn K false) := by
  subst hK
  exact op_in_seq
theorem knin (hK : X.K = K) : OpR X (compareOp .NotIn) (rIn K true) := by
  subst hK
  exact op_notIn_seq
theorem keqd (hK : X.K = K) (hu : X.A.units + 64 < cLine) : OpR X (compareOp .Eq) (rEqD K) := by
  subst hK
  exact op_eqD hu
theorem kned (hK : X.K = K) (hu : X.A.units + 64 < cLine) : OpR X (compareOp .NotEq) (rNeD K) := by
  subst hK
  exact op_neD hu
theorem klen (hK : X.K = K) : CallR X (.builtin "len") (rLen K) := by
  subst hK
  exact call_len_seq
theorem klist (hK : X.K = K) : CallR X (.type "list") (rListOf K) := by
  subst hK
  exact call_list_of
theorem kisi (hK : X.K = K) : CallR X (.builtin "isinstance") (rIsi K) := by
  subst hK
  exact call_isi
theorem kisiT (hK : X.K = K) : CallR X (.builtin "isinstance") (rIsiT K) := by
  subst hK
  exact call_isiT
theorem kindex (hK : X.K = K) : MtR X "list.index" (rIndex K) := by
  subst hK
  exact mt_index
theorem kpil (hK : X.K = K) {tg l : Expr} {tl : TE} (h : PE X l tl) : PI X tg l (iList K tl) := by
  subst hK
  exact pi_list h
theorem kpit (hK : X.K = K) {tg l : Expr} {tl : TE} (h : PE X l tl) : PI X tg l (iTup K tl) := by
  subst hK
  exact pi_tup h
theorem kgtup (hK : X.K = K) {es : List Expr} {k n : Nat} {t : TGs} (hc : X.calm = true) (h : PGs X es t) (hn : (assignEach es X.env).length = n := by rfl) (hst : (assignEach es X.env).findIdx? (·.1) = none := by rfl) : PG X (.Tuple es k pos) (gTup K n t) := by
  subst hK
  exact pg_tup hc h hn hst
end
def ItS (k : Bool) (K : PySem.W.Frag) (a : Addr) : It := match k with
  | true => Itt K a
  | false => Itl K a
def iK (k : Bool) (K : PySem.W.Frag) (tl : TE) : TI := fun σ H R => tl σ H fun x H1 => ∃ a, x = .ref a ∧ (∃ xs, SqK k K H1 a xs) ∧ R (ItS k K a) H1
theorem pi_K (k : Bool) {X : Cx} {K : PySem.W.Frag} (hK : X.K = K) {tg l : Expr} {tl : TE} (h : PE X l tl) : PI X tg l (iK k K tl) := by
  subst hK
  cases k with
  | true => exact pi_tup h
  | false => exact pi_list h
theorem SqK.same {k : Bool} {K : PySem.W.Frag} {H H' : Hp} {a : Addr} {xs : List V} (s : Same H H') (h : SqK k K H a xs) : SqK k K H' a xs := by
  cases k with
  | true =>
    rcases h with (h | ⟨o, h⟩) | h
    · exact .inl (.inl (s _ _ h))
    · exact .inl (.inr ⟨o, s _ _ h⟩)
    · exact .inr h
  | false => exact Same.seq s h
theorem for_enum {K : PySem.W.Frag} {a : Addr} {xs : List V} {g : TG} {tb : TS} {D : Ends} {σ : L2.St} {H : Hp} (Pv : Nat → L2.St → Hp → Prop) (h0 : Pv 0 σ H) (hq : ∀ i σ H, Pv i σ H → SqL K H a xs)
    (hs : ∀ (i : Nat) (x : V) (T : Addr) (σ : L2.St) (H : Hp), xs[i]? = some x → Pv i σ H → H T = none → g (.ref T) σ (upd H T (.tup [.int (i : Nat), x])) fun σ2 H2 => tb { D with nx := Pv (i + 1), ct := Pv (i + 1), bk := D.nx } σ2 H2) (hd : ∀ σ H, Pv xs.length σ H → D.nx σ H) :
    ∃ W : Nat → Nat → L2.St → Hp → Prop, (∃ m, W 0 m σ H) ∧ ∀ i m σ H, W i m σ H →
      ((Ite K a).stop i H ∧ D.nx σ H) ∨ ((Ite K a).go i H ∧ ∃ N : L2.St → Hp → Prop, (∀ σ' H', N σ' H' → ∃ m', m' < m ∧ W (i + 1) m' σ' H') ∧ ∀ v H', (Ite K a).yld i H v H' → g v σ H' fun σ2 H2 => tb { D with nx := N, ct := N, bk := D.nx } σ2 H2) := by
  refine ⟨fun i m σ H => m + i = xs.length ∧ Pv i σ H, ⟨xs.length, rfl, h0⟩, ?_⟩
  rintro i m σ H ⟨hm, p⟩
  have qx := hq i σ H p
  by_cases hlt : i < xs.length
  · refine .inr ⟨⟨xs, xs[i], qx, List.getElem?_eq_getElem hlt⟩, Pv (i + 1), fun σ' H' p' => ⟨m - 1, by omega, by omega, p'⟩, fun v H' yl => ?_⟩
    obtain ⟨T, x, rfl, hT, rfl, f1⟩ := yl
    exact hs i x T σ H (f1 xs qx) p hT
  · have e : i = xs.length := by omega
    subst e
    exact .inl ⟨⟨xs, qx, Nat.le_refl _⟩, hd σ H p⟩
theorem pe_gint {X : Cx} {x : Str} {i : Int} {pos : Pos} (h : ∃ t, X.mg x = some (.int i t)) (hg : Gl X x := by rfl) (hd : (x == ("__debug__" : Str)) = false := by decide) : PE X (.Name x pos) (tC (.int i)) := by
  obtain ⟨t, h⟩ := h
  exact pe_glob hg h ⟨_, rfl⟩ (hd := hd)
theorem cut_take (xs : List V) (i : Nat) : cutV xs none (some (i : Int)) = xs.take i := by
  unfold cutV
  rw [HT.sIx_nat, HT.sIx_none, List.drop_zero, Nat.sub_zero, ← List.take_eq_take_min]
theorem inV_ints (n : Int) (ns : List Int) : inV (.int n) (ns.map V.int) = decide (n ∈ ns) := by
  unfold inV
  rw [List.any_map]
  rw [Bool.eq_iff_iff, decide_eq_true_eq, List.any_eq_true]
  refine ⟨fun ⟨y, hy, e⟩ => ?_, fun h => ⟨n, h, ?_⟩⟩
  · have e' : (y == n) = true := e
    rw [← eq_of_beq e']
    exact hy
  · show (n == n) = true
    exact beq_self_eq_true n
theorem flat_ints (ns : List Int) : (ns.map V.int).all flatV = true := by
  rw [List.all_map]
  exact List.all_eq_true.mpr fun _ _ => rfl
def TpO (o : HO) (vs : List V) : Prop := ∃ ob : Obj, ob.dict = none ∧ o = .frz ob (.tup vs)
theorem TpO.sq {K : PySem.W.Frag} {H : Hp} {a : Addr} {o : HO} {vs : List V} (t : TpO o vs) (h : H a = some o) : SqT K H a vs := by
  obtain ⟨ob, _, rfl⟩ := t
  exact .inl (.inr ⟨ob, h⟩)
def tTupF (t : TA) : TE := fun σ H Q => t σ H fun xs H1 => xs.length ≤ sizeLine ∧ ∀ p o, H1 p = none → TpO o xs → Q (.ref p) (upd H1 p o)
theorem pe_tupF {X : Cx} {es : List Expr} {t : TA} {pos : Pos} {x1} (h : PA X es t) : PE X (.Tuple es x1 pos) (tTupF t) := by
  refine ⟨fun pins s σ H Q I hq => ?_⟩
  refine wpAny_Tuple_spliced (thn (h.run pos pins s σ H _ I hq) fun us s1 ⟨xs, H1, I1, r, z, q⟩ => ⟨by rw [← r.length]; exact z, ?_⟩)
  have hf : H1 s1.heap.objs.size = none := I1.hok.fresh (Nat.le_refl _)
  refine ⟨.ref s1.heap.objs.size, upd H1 s1.heap.objs.size (.frz { cls := .type "tuple", data := .seq us.toArray } (.tup xs)), I1.laid (t' := s1.toks) (fun b u e => Heap.get?_push_of_some _ e) (Nat.le_refl _) ?_, rfl, q _ _ hf ⟨_, rfl, rfl⟩⟩
  exact ⟨Heap.get?_push_size _ rfl, z, us, r, ⟨_, Heap.get?_push_size _ rfl, rfl, _, rfl⟩⟩
def rTupF (K : PySem.W.Frag) : List V → Hp → VK → Prop := fun xs H Q => ∃ p ys, xs = [V.ref p] ∧ ((SqL K H p ys ∧ ∀ l o, H l = none → TpO o ys → Q (.ref l) (upd H l o)) ∨ (SqT K H p ys ∧ Q (.ref p) H))
theorem ktupF {X : Cx} {K : PySem.W.Frag} (hK : X.K = K) : CallR X (.type "tuple") (rTupF K) := by
  subst hK
  intro pins s σ H xs us Q I r h
  obtain ⟨p, ys, rfl, h⟩ := h
  obtain ⟨u, rfl, ru⟩ := vals1 r
  cases ru
  rcases h with ⟨hs, q⟩ | ⟨hs, q⟩
  · obtain ⟨its, rv, pl, hz⟩ := I.list hs
    refine call_tuple_list pl.isList (fun h' hk => ?_) (by rw [List.size_toArray, ← rv.length]; exact hz)
    have I1 : Inv X pins σ H { s with heap := h' } := I.kept (t' := s.toks) hk
    have I2 : Inv X pins σ (upd H h'.objs.size (.frz { cls := .type "tuple", data := .seq its.toArray } (.tup ys))) { s with heap := h'.push { cls := .type "tuple", data := .seq its.toArray } } :=
      I1.laid (t' := s.toks) (fun b o e => Heap.get?_push_of_some _ e) (Nat.le_refl _) (show ObjOk X.prog X.w _ _ _ (.frz _ (.tup ys)) from ⟨Heap.get?_push_size _ rfl, hz, its, rv, IsTup.new _ _⟩)
    exact ⟨.ref h'.objs.size, _, I2, rfl, q _ _ (I1.hok.fresh (Nat.le_refl _)) ⟨_, rfl, rfl⟩⟩
  · obtain ⟨its, rv, pl, hz⟩ := I.tuple hs
    exact call_tuple_tup pl ⟨.ref p, H, I, rfl, q⟩
/-- t[lo:hi]: the whole of it is t itself -/
def rSlF (K : PySem.W.Frag) : V → Option Int → Option Int → Hp → VK → Prop := fun x lo hi H Q => ∃ a xs, x = .ref a ∧ SqT K H a xs ∧
  (HT.sIx xs.length 0 lo = 0 ∧ HT.sIx xs.length xs.length hi = xs.length → Q (.ref a) H) ∧ (¬ (HT.sIx xs.length 0 lo = 0 ∧ HT.sIx xs.length xs.length hi = xs.length) → ∀ p o, H p = none → TpO o (cutV xs lo hi) → Q (.ref p) (upd H p o))
theorem kslF {X : Cx} {K : PySem.W.Frag} (hK : X.K = K) : SlR X (rSlF K) := by
  subst hK
  intro pins s σ H x v vl vu lo hi sl Q I rx hs pl pu h
  obtain ⟨a, xs, rfl, hx, q1, q2⟩ := h
  cases rx
  obtain ⟨its, r, ht, hz⟩ := I.tuple hx
  have hlen : its.toArray.size = xs.length := by rw [List.size_toArray]; exact r.length.symm
  by_cases hw : HT.sIx xs.length 0 lo = 0 ∧ HT.sIx xs.length xs.length hi = xs.length
  · refine ⟨"tuple", _, PyProof.Rows.slot_tuple_getitem.lookup, ht.typeIs, ?_⟩
    exact getItem_tuple_whole ht hs pl pu (by rw [hlen]; exact hw) ⟨.ref a, H, I, rfl, q1 hw⟩
  · refine ⟨"tuple", _, PyProof.Rows.slot_tuple_getitem.lookup, ht.typeIs, ?_⟩
    refine HT.getItem_tuple_cut ht hs pl pu (by rw [hlen]; exact hw) ?_ (by rw [hlen]; exact hz)
    rw [hlen]
    refine ⟨.ref s.heap.objs.size, _, I.laid (t' := s.toks) (o := .frz { cls := .type "tuple", data := .seq ((its.toArray.toList.drop (HT.sIx xs.length 0 lo)).take (HT.sIx xs.length xs.length hi - HT.sIx xs.length 0 lo)).toArray } (.tup (cutV xs lo hi))) (fun b ob q => Heap.get?_push_of_some _ q) (Nat.le_refl _) ?_, rfl, q2 hw _ _ (I.hok.fresh (Nat.le_refl _)) ⟨_, rfl, rfl⟩⟩
    exact ⟨Heap.get?_push_size _ rfl, Nat.le_trans (cutV_length xs lo hi) hz, _, (r.drop (HT.sIx xs.length 0 lo)).take (HT.sIx xs.length xs.length hi - HT.sIx xs.length 0 lo), IsTup.new _ _⟩
/-- t + u -/
def rCatF (K : PySem.W.Frag) : R2 := fun x y H Q => ∃ a b xs ys, x = .ref a ∧ y = .ref b ∧ SqT K H a xs ∧ SqT K H b ys ∧ xs.length + ys.length ≤ sizeLine ∧
  (xs = [] → Q (.ref b) H) ∧ (xs ≠ [] → ys = [] → Q (.ref a) H) ∧ (xs ≠ [] → ys ≠ [] → ∀ p o, H p = none → TpO o (xs ++ ys) → Q (.ref p) (upd H p o))
theorem kcatF {X : Cx} {K : PySem.W.Frag} (hK : X.K = K) : OpR X (binaryOp .Add) (rCatF K) := by
  subst hK
  intro pins s σ H x y v u Q I rx ry h
  obtain ⟨a, b, xs, ys, rfl, rfl, ha, hb, hz, q0, q1, q2⟩ := h
  cases rx
  cases ry
  obtain ⟨its, r1, p1, _⟩ := I.tuple ha
  obtain ⟨its2, r2, p2, _⟩ := I.tuple hb
  by_cases hx : xs = []
  · subst hx
    cases r1
    exact cat_tup0 p1 p2 ⟨.ref b, H, I, rfl, q0 rfl⟩
  · refine HT.cat_tup p1 p2 (fun z => hx (r1.nil_iff.mp z)) (fun z => ⟨.ref a, H, I, rfl, q1 hx (r2.nil_iff.mp z)⟩) (fun z => ?_) (by rw [← r1.length, ← r2.length]; exact hz)
    refine ⟨.ref s.heap.objs.size, _, I.laid (t' := s.toks) (o := .frz { cls := .type "tuple", data := .seq (its ++ its2).toArray } (.tup (xs ++ ys))) (fun b ob q => Heap.get?_push_of_some _ q) (Nat.le_refl _) ?_, rfl, q2 hx (fun w => z (r2.nil_iff.mpr w)) _ _ (I.hok.fresh (Nat.le_refl _)) ⟨_, rfl, rfl⟩⟩
    exact ⟨Heap.get?_push_size _ rfl, by rw [List.length_append]; exact hz, _, r1.append r2, IsTup.new _ _⟩
theorem meets_enumerate_newT (l : Addr) (items : Array Value) (n : Nat) (dct : Option Addr) (sl : Array (Option Value)) :
    Meets (Builtin.«enumerate.__new__» ⟨[.type "enumerate", .ref l], []⟩) (fun _ R s => s.heap.get? l = some { cls := .type "tuple", dict := dct, data := .seq items n, slots := sl } ∧
      R (.ok (.ret (.ref (s.heap.push { cls := .type "tuple_iterator", data := .fields #[.ref l, .int 0 0] }).objs.size)))
        { s with heap := (s.heap.push { cls := .type "tuple_iterator", data := .fields #[.ref l, .int 0 0] }).push { cls := .type "enumerate", data := .fields #[.none, .bool false, .ref s.heap.objs.size, rawInt 0, .none, .none] } }) :=
  .of_wp fun prog w A R s h => by
    obtain ⟨hp, g, d, tk, os⟩ := s; obtain ⟨hl, h⟩ := h
    have hsub := sub_enumerate
    have hL : Heap.IsTuple (Shared.heap ⟨hp, g, d, tk, os⟩) l items := ⟨_, hl, rfl, n, rfl⟩
    wp_walk using AutoSeq1.wpAny_loadPart' hl
    refine wpAny_stack_any fun st => wpAny_pure ?_
    split
    · rename_i c _ _ _ _ _
      cases (c == Value.type "enumerate")
      · wp_walk using AutoSeq1.wpAny_loadPart' hl, wpAny_pyIter_tuple hL
        exact ⟨_, rfl, h⟩
      · wp_walk using AutoSeq1.wpAny_loadPart' hl, wpAny_pyIter_tuple hL
        exact ⟨_, rfl, h⟩
    · wp_walk using AutoSeq1.wpAny_loadPart' hl, wpAny_pyIter_tuple hL
      exact ⟨_, rfl, h⟩
theorem call_enumerate_tup {prog : Program} {w : World} {A : Around} {E : Value → Shared → Prop} {s : Shared} {l : Addr} {items : Array Value} {Q : Value → Shared → Prop} (hL : s.heap.IsTuple l items)
    (h : ∀ h', IsEnum h' (s.heap.objs.size + 1) s.heap.objs.size 0 .none → h'.IsTupleIter s.heap.objs.size l 0 → h'.objs.size = s.heap.objs.size + 2 →
      (∀ b o, s.heap.get? b = some o → h'.get? b = some o) → Q (.ref (s.heap.objs.size + 1)) { s with heap := h' }) :
    wpAny (model prog w) A (call (.type "enumerate") [.ref l]) Q E s := by
  obtain ⟨⟨c, dct, dt, sl⟩, hl, hc, n, hd⟩ := hL
  replace hc : c = .type "tuple" := hc
  replace hd : dt = .seq items n := hd
  subst hc hd
  refine callType_new F.called_enumerate (by decide) (F.typeCall_enumerate_1 _) (F.newCall_enumerate_1 _) (fun obj => F.args_object_init_2 obj _) F.entry_enumerate_new
    (meets_enumerate_newT l items n dct sl) ⟨hl, ?_⟩
  have hz : (s.heap.push { cls := .type "tuple_iterator", data := .fields #[.ref l, .int 0 0] }).objs.size = s.heap.objs.size + 1 := Heap.size_push ..
  show _ ∧ _
  rw [hz]
  have he : IsEnum ((s.heap.push { cls := .type "tuple_iterator", data := .fields #[.ref l, .int 0 0] }).push { cls := .type "enumerate", data := .fields #[.none, .bool false, .ref s.heap.objs.size, rawInt 0, .none, .none] }) (s.heap.objs.size + 1) s.heap.objs.size 0 .none := by
    have := Heap.get?_push_size (s.heap.push { cls := .type "tuple_iterator", data := .fields #[.ref l, .int 0 0] }) (o := { cls := .type "enumerate", data := .fields #[.none, .bool false, .ref s.heap.objs.size, rawInt 0, .none, .none] }) rfl
    rw [hz] at this; exact this
  have hi : ((s.heap.push { cls := .type "tuple_iterator", data := .fields #[.ref l, .int 0 0] }).push { cls := .type "enumerate", data := .fields #[.none, .bool false, .ref s.heap.objs.size, rawInt 0, .none, .none] }).get? s.heap.objs.size = some { cls := .type "tuple_iterator", data := .fields #[.ref l, .int 0 0] } := Heap.get?_push_of_some _ (Heap.get?_push_size _ rfl)
  exact ⟨⟨_, he, rfl⟩, h _ he ⟨_, hi, rfl, rfl⟩ (by rw [Heap.size_push, hz]) fun b o x => Heap.get?_push_of_some _ (Heap.get?_push_of_some _ x)⟩
def IteF (k : Bool) (K : PySem.W.Frag) (a : Addr) : It :=
  ⟨fun i H => ∃ (xs : List V) (x : V), SqK k K H a xs ∧ xs[i]? = some x, fun i H v H' => ∃ T x o, v = .ref T ∧ H T = none ∧ TpO o [.int (i : Nat), x] ∧ H' = upd H T o ∧ ∀ xs, SqK k K H a xs → xs[i]? = some x, fun i H => ∃ xs : List V, SqK k K H a xs ∧ i = xs.length⟩
theorem turn_enumF {P : Program} {w : World} {K : PySem.W.Frag} {elts : List Expr} {kk : Nat} {tpos : Pos} {k : Bool} (a e it : Addr) (hae : a ≠ e) (hai : a ≠ it) :
    Turn P w K (.Tuple elts kk tpos) (IteF k K a) [e, it] e (fun i h => (∃ old, IsEnum h e it ((i : Nat) : Int) old) ∧ ItK k h it a i ∧ e ≠ it) where
  mem := by simp
  obj := fun i h st b hb => by
    obtain ⟨⟨old, he⟩, hi, _⟩ := st
    have e' : b = e ∨ b = it := by simpa using hb
    rcases e' with z | z
    · rw [z]; exact ⟨_, he, fun v q => nomatch q⟩
    · rw [z]; exact hi.obj
  keep := fun i h h' st k => let ⟨⟨old, he⟩, hi, hne⟩ := st; ⟨⟨old, k e (by simp) _ he⟩, hi.at fun o q => k it (by simp) o q, hne⟩
  item := by
    intro X hP hw hK hc i pins s σ H E I hf st hg
    subst hP hw hK
    obtain ⟨⟨old, he⟩, hit, hne⟩ := st
    obtain ⟨xs, x, hq, hx⟩ := hg
    obtain ⟨its, rv, p, hz⟩ := seqK I hq
    obtain ⟨u, hu, ru⟩ := rv.get hx
    have hel : e < s.heap.objs.size := Heap.lt_size he
    have hil : it < s.heap.objs.size := by obtain ⟨_, q, _⟩ := hit.obj; exact Heap.lt_size q
    have hh : X.A.in1.handled = none := I.ok.hd hc
    have lu : i < its.toArray.size := by simpa using (List.getElem?_eq_some_iff.mp hu).1
    have d1 := drK (prog := X.prog) (w := X.w) (A := X.A.in1) k hh hai its.toArray
    refine wpAny_pyNext_enum_itemC d1 he ⟨hit, p⟩ lu hne (by simp [hne, Ne.symm hae]) fun u' h' tk eu ho st' hT hsz hk => ?_
    have eu' : u' = u := by
      have : its.toArray[i]? = some u := by simpa using hu
      rw [this] at eu
      exact (Option.some.inj eu).symm
    subst eu'
    refine ⟨_, rfl, wpAny_letOwnedTupleGo_enum (s := { s with heap := h', toks := tk + 1 }) ho fun h'' he' sb => ?_⟩
    have hT2 : h''.get? s.heap.objs.size = some { cls := .type "tuple", data := .seq #[.int i tk, u'] } := (sb.2 _ (Nat.ne_of_gt hel)).trans hT
    have new : ObjOk X.prog X.w (upd H s.heap.objs.size (.frz { cls := .type "tuple", data := .seq #[.int i tk, u'] } (.tup [.int (i : Nat), x]))) h'' s.heap.objs.size (.frz { cls := .type "tuple", data := .seq #[.int i tk, u'] } (.tup [.int (i : Nat), x])) :=
      ⟨hT2, by show 2 ≤ sizeLine; decide, [.int i tk, u'], .cons ⟨_, rfl⟩ (.cons ru .nil), ⟨_, hT2, rfl, _, rfl⟩⟩
    have I1 : Inv X pins σ (upd H s.heap.objs.size (.frz { cls := .type "tuple", data := .seq #[.int i tk, u'] } (.tup [.int (i : Nat), x]))) { s with heap := h'', toks := tk + 1 } :=
      I.turnedNew (t' := tk + 1) (ch := [e, it]) (fun b ob hb q => (sb.2 b (fun z => hb (by simp [z]))).trans (hk b ob (fun z => hb (by simp [z])) (fun z => hb (by simp [z])) q)) hf (Nat.le_refl _) new
    refine ⟨.ref s.heap.objs.size, _, I1, rfl, ⟨_, x, _, rfl, I.hok.fresh (Nat.le_refl _), ⟨_, rfl, rfl⟩, rfl, fun ys hy => by rw [seqK_inj I hy hq]; exact hx⟩, ⟨⟨u', ?_⟩, st'.1.at fun o q => (sb.2 it (Ne.symm hne)).trans q, hne⟩, fun b hb => ?_⟩
    · have e1 : ((i + 1 : Nat) : Int) = (i : Int) + 1 := by omega
      rw [e1]; exact he'
    · have hb' : b < s.heap.objs.size := by
        have e' : b = e ∨ b = it := by simpa using hb
        rcases e' with z | z
        · rw [z]; exact hel
        · rw [z]; exact hil
      rw [upd_ne (Nat.ne_of_lt hb')]
      exact (hf b hb).1
  done := by
    intro X hP hw hK hc i pins s σ H E I hf st hg
    subst hP hw hK
    obtain ⟨⟨old, he⟩, hit, hne⟩ := st
    obtain ⟨xs, hq, rfl⟩ := hg
    obtain ⟨its, rv, p, hz⟩ := seqK I hq
    have hl := rv.length
    have hh : X.A.in1.handled = none := I.ok.hd hc
    have d1 := drK (prog := X.prog) (w := X.w) (A := X.A.in1) k hh hai its.toArray
    have hs : StK k it a its.toArray its.toArray.size s.heap := by
      rw [List.size_toArray, ← hl]
      exact ⟨hit, p⟩
    refine wpAny_pyNext_enum_endD d1 he hs fun h' eb => ⟨rfl, I.turnedL (t' := s.toks) (ch := [e, it]) (fun b o hb q => eb b o (fun z => hb (by simp [z])) q) hf⟩
  self := fun A i s Q E st h => let ⟨⟨_, he⟩, _⟩ := st; wpAny_pyIter_enum he h
def iEnumF (k : Bool) (K : PySem.W.Frag) (ta : TA) : TI := fun σ H R => ta σ H fun vs H1 => ∃ a xs, vs = [.ref a] ∧ SqK k K H1 a xs ∧ R (IteF k K a) H1
theorem pi_enumF (k : Bool) {X : Cx} {K : PySem.W.Frag} (hK : X.K = K) {e : Expr} {ta : TA} {p pos tpos : Pos} {elts : List Expr} {kk : Nat} (hg : Gl X "enumerate") (hm : X.mg "enumerate" = none) (ha : PA X [e] ta) (hs : starEach [e] X.env = [(false, eval e X.env)] := by rfl) :
    PI X (.Tuple elts kk tpos) (.Call (.Name "enumerate" p) [e] [] pos) (iEnumF k K ta) := by
  subst hK
  refine ⟨fun pins s σ H R I h => ?_⟩
  refine Call_ (ld_blt I hg hm boot_enumerate (PyProof.Rows.callWith_type1 (thn (ha.run pos pins s σ H _ I h) fun us s1 ⟨vs, H1, I1, r1, q1⟩ => ?_) hs rfl))
  obtain ⟨a, xs, ex, hq, q⟩ := q1
  subst ex
  cases r1 with
  | cons r rr =>
    cases rr
    cases r
    obtain ⟨its, rv, p', hz⟩ := seqK I1 hq
    have fin : ∀ h', IsEnum h' (s1.heap.objs.size + 1) s1.heap.objs.size 0 .none → ItK k h' s1.heap.objs.size a 0 → (∀ b o, s1.heap.get? b = some o → h'.get? b = some o) →
        wpAny (model X.prog X.w) X.A (pyIter (.ref (s1.heap.objs.size + 1))) (PIE X pins σ (.Tuple elts kk tpos) R) X.xe { s1 with heap := h' } := fun h' he hit hk => wpAny_pyIter_enum he (by
      have I2 : Inv X pins σ H1 { s1 with heap := h' } := I1.kept (t' := s1.toks) hk
      have la : a < s1.heap.objs.size := p'.lt
      refine ⟨s1.heap.objs.size + 1, [s1.heap.objs.size + 1, s1.heap.objs.size], _, _, H1, rfl, I2, turn_enumF a (s1.heap.objs.size + 1) s1.heap.objs.size (Nat.ne_of_lt (Nat.lt_succ_of_lt la)) (Nat.ne_of_lt la), ⟨⟨.none, he⟩, hit, Nat.succ_ne_self _⟩, fun b hb => ?_, q⟩
      have e' : b = s1.heap.objs.size + 1 ∨ b = s1.heap.objs.size := by simpa using hb
      have hle : s1.heap.objs.size ≤ b := by
        rcases e' with z | z
        · rw [z]; exact Nat.le_add_right _ _
        · rw [z]; exact Nat.le_refl _
      exact I1.fpOk hle (I1.hok.fresh hle))
    cases k with
    | true => exact call_enumerate_tup p' fun h' he hit hsz hk => fin h' he hit hk
    | false => exact call_enumerate_list p' fun h' he hit hsz hk => fin h' he hit hk
def hashTI (ks : List Int) : Int := reduceHash (Builtin.Tuple.tupleHashOf (ks.map hashInt))
def entTI (x : List Int × Addr × Value) : DictEntry := ⟨hashTI x.1, .ref x.2.1, x.2.2⟩
/-- such a dict at a: its keys with their objects, its values -/
abbrev dicT (a : Addr) (xs : List (List Int × Addr × Value)) : HO := .ext fun h => ((a == sysModules) = false ∧ xs.length ≤ sizeLine) ∧ ∃ o es ep, h.get? a = some o ∧ o.ExactDict ∧ o.data = .dict es ep ∧ es.toList = xs.map entTI ∧ (xs.map (·.1)).Nodup
inductive Dat where
  | non | bl (b : Bool) | int (i : Int) | str (x : Str) | pool
  | lst (xs : List Dat) | tup (xs : List Dat)
  | obj (k : Nat) (ds : List Dat)
  | dK (kvs : List (Key × Dat))
  | dT (ks : List (List Int)) (ds : List Dat)
  | rng (lo hi : Int)
  | cell (a : Addr)
/-- what stays as it is through a law: the written part, the pool and its copy of the script -/
structure Wd where
  K : PySem.W.Frag
  ca : Nat → Addr
  po : Option (Addr × Addr)
/-- the attributes of the objects of each class, by the class's number -/
def clsN : Nat → List Str
  | 0 => ["p", "q", "bases"]
  | 1 => ["unknowns", "equations"]
  | 2 => ["statement", "choices"]
  | 3 => ["name", "fields"]
  | 4 => ["kind", "element", "first", "drawn", "state"]
  | 5 => ["name", "group", "kinds", "book", "_requests"]
  | 6 => ["group", "secret", "holdings"]
  | 7 => ["row", "randomness", "numbers"]
  | 8 => ["cards", "conditions"]
  | 9 => ["group", "kinds", "policy", "rows"]
  | 15 => ["words", "at"]
  | 16 => ["_group", "_fresh", "_told", "_claim", "_witness", "_tape"]
  | 17 => ["state", "_question", "_claim", "_first", "_drawn"]
  | _ => []
/-- a tuple that stays as it is: it is among the settled objects, or it is written -/
def FzT (_ : Wd) (F : Addr → Prop) (H : Hp) (a : Addr) (vs : List V) : Prop := F a ∧ ∃ o, H a = some o ∧ TpO o vs
theorem FzT.sq {W : Wd} {F : Addr → Prop} {H : Hp} {a : Addr} {vs : List V} (h : FzT W F H a vs) : SqT W.K H a vs := by
  obtain ⟨_, o, e, t⟩ := h
  exact t.sq e
mutual
inductive Rv (W : Wd) (F : Addr → Prop) (H : Hp) : V → Dat → Prop
  | non : Rv W F H .non .non
  | bl (b : Bool) : Rv W F H (.bl b) (.bl b)
  | int (i : Int) : Rv W F H (.int i) (.int i)
  | str (x : Str) : Rv W F H (.str x) (.str x)
  | pool {p c : Addr} : W.po = some (p, c) → Rv W F H (.ref p) .pool
  | lst {a : Addr} {vs : List V} {ds : List Dat} : F a → H a = some (.lst vs) → RvAll W F H vs ds → Rv W F H (.ref a) (.lst ds)
  | tup {a : Addr} {vs : List V} {ds : List Dat} : FzT W F H a vs → RvAll W F H vs ds → Rv W F H (.ref a) (.tup ds)
  | obj {a dx : Addr} {k : Nat} {fs : List (Str × V)} {ds : List Dat} : F a → H a = some (.ins (W.ca k) dx fs) → RvFs W F H fs (clsN k) ds → (∀ m, m ∉ clsN k → fs.lookup m = none) → Rv W F H (.ref a) (.obj k ds)
  | dK {a : Addr} {kvs : List (Key × V)} {kds : List (Key × Dat)} : F a → H a = some (.dK kvs) → RvKv W F H kvs kds → Rv W F H (.ref a) (.dK kds)
  | dT {a : Addr} {xs : List (List Int × Addr × Value)} {vs : List V} {ks : List (List Int)} {ds : List Dat} : F a → H a = some (dicT a xs) → ks = xs.map (·.1) → (∀ x ∈ xs, FzT W F H x.2.1 (x.1.map V.int)) → Vals vs (xs.map (·.2.2)) → RvAll W F H vs ds → Rv W F H (.ref a) (.dT ks ds)
  | rng {a : Addr} {lo hi : Int} : F a → H a = some (.rng lo hi) → Rv W F H (.ref a) (.rng lo hi)
  | cell (a : Addr) : Rv W F H (.ref a) (.cell a)
inductive RvAll (W : Wd) (F : Addr → Prop) (H : Hp) : List V → List Dat → Prop
  | nil : RvAll W F H [] []
  | cons {v : V} {vs : List V} {d : Dat} {ds : List Dat} : Rv W F H v d → RvAll W F H vs ds → RvAll W F H (v :: vs) (d :: ds)
inductive RvFs (W : Wd) (F : Addr → Prop) (H : Hp) : List (Str × V) → List Str → List Dat → Prop
  | nil {fs : List (Str × V)} : RvFs W F H fs [] []
  | cons {fs : List (Str × V)} {k : Str} {v : V} {d : Dat} {ks : List Str} {ds : List Dat} : fs.lookup k = some v → Rv W F H v d → RvFs W F H fs ks ds → RvFs W F H fs (k :: ks) (d :: ds)
inductive RvKv (W : Wd) (F : Addr → Prop) (H : Hp) : List (Key × V) → List (Key × Dat) → Prop
  | nil : RvKv W F H [] []
  | cons {k : Key} {v : V} {kvs : List (Key × V)} {d : Dat} {kds : List (Key × Dat)} : Rv W F H v d → RvKv W F H kvs kds → RvKv W F H ((k, v) :: kvs) ((k, d) :: kds)
end
/-- more is settled, what was settled stands as it was -/
def Sub (F : Addr → Prop) (H : Hp) (F' : Addr → Prop) (H' : Hp) : Prop := ∀ a, F a → F' a ∧ H' a = H a
theorem FzT.sub {W : Wd} {F F' : Addr → Prop} {H H' : Hp} {a : Addr} {vs : List V} (s : Sub F H F' H') (h : FzT W F H a vs) : FzT W F' H' a vs := by
  obtain ⟨f, o, e, t⟩ := h
  exact ⟨(s a f).1, o, (s a f).2.trans e, t⟩
section
variable {W : Wd} {F F' : Addr → Prop} {H H' : Hp}
mutual
theorem Rv.sub (s : Sub F H F' H') : ∀ {v : V} {d : Dat}, Rv W F H v d → Rv W F' H' v d
  | _, _, .non => .non
  | _, _, .bl b => .bl b
  | _, _, .int i => .int i
  | _, _, .str x => .str x
  | _, _, .pool h => .pool h
  | _, _, .lst f h r => .lst (s _ f).1 ((s _ f).2.trans h) (RvAll.sub s r)
  | _, _, .tup h r => .tup (h.sub s) (RvAll.sub s r)
  | _, _, .obj f h r n => .obj (s _ f).1 ((s _ f).2.trans h) (RvFs.sub s r) n
  | _, _, .dK f h r => .dK (s _ f).1 ((s _ f).2.trans h) (RvKv.sub s r)
  | _, _, .dT f h e g l r => .dT (s _ f).1 ((s _ f).2.trans h) e (fun x hx => (g x hx).sub s) l (RvAll.sub s r)
  | _, _, .rng f h => .rng (s _ f).1 ((s _ f).2.trans h)
  | _, _, .cell a => .cell a
theorem RvAll.sub (s : Sub F H F' H') : ∀ {vs : List V} {ds : List Dat}, RvAll W F H vs ds → RvAll W F' H' vs ds
  | _, _, .nil => .nil
  | _, _, .cons a r => .cons (Rv.sub s a) (RvAll.sub s r)
theorem RvFs.sub (s : Sub F H F' H') : ∀ {vs : List (Str × V)} {ks : List Str} {ds : List Dat}, RvFs W F H vs ks ds → RvFs W F' H' vs ks ds
  | _, _, _, .nil => .nil
  | _, _, _, .cons e a r => .cons e (Rv.sub s a) (RvFs.sub s r)
theorem RvKv.sub (s : Sub F H F' H') : ∀ {vs : List (Key × V)} {ds : List (Key × Dat)}, RvKv W F H vs ds → RvKv W F' H' vs ds
  | _, _, .nil => .nil
  | _, _, .cons a r => .cons (Rv.sub s a) (RvKv.sub s r)
end
theorem RvAll.length : ∀ {vs : List V} {ds : List Dat}, RvAll W F H vs ds → vs.length = ds.length
  | _, _, .nil => rfl
  | _, _, .cons _ r => congrArg (· + 1) (RvAll.length r)
theorem RvAll.get : ∀ {vs : List V} {ds : List Dat} {i : Nat} {d : Dat}, RvAll W F H vs ds → ds[i]? = some d → ∃ v, vs[i]? = some v ∧ Rv W F H v d
  | _, _, _, _, .nil, e => by simp at e
  | _, _, 0, _, .cons a _, e => by
    simp only [List.getElem?_cons_zero, Option.some.injEq] at e
    subst e
    exact ⟨_, rfl, a⟩
  | _, _, i + 1, _, .cons _ r, e => by
    simp only [List.getElem?_cons_succ] at e
    obtain ⟨v, h1, h2⟩ := RvAll.get (i := i) r e
    exact ⟨v, h1, h2⟩
theorem RvAll.getV : ∀ {vs : List V} {ds : List Dat} {i : Nat} {v : V}, RvAll W F H vs ds → vs[i]? = some v → ∃ d, ds[i]? = some d ∧ Rv W F H v d
  | _, _, _, _, .nil, e => by simp at e
  | _, _, 0, _, .cons a _, e => by
    simp only [List.getElem?_cons_zero, Option.some.injEq] at e
    subst e
    exact ⟨_, rfl, a⟩
  | _, _, i + 1, _, .cons _ r, e => by
    simp only [List.getElem?_cons_succ] at e
    obtain ⟨d, h1, h2⟩ := RvAll.getV (i := i) r e
    exact ⟨d, h1, h2⟩
theorem RvAll.append : ∀ {vs ws : List V} {ds es : List Dat}, RvAll W F H vs ds → RvAll W F H ws es → RvAll W F H (vs ++ ws) (ds ++ es)
  | _, _, _, _, .nil, s => s
  | _, _, _, _, .cons a r, s => .cons a (RvAll.append r s)
theorem RvAll.take : ∀ {vs : List V} {ds : List Dat} (n : Nat), RvAll W F H vs ds → RvAll W F H (vs.take n) (ds.take n)
  | _, _, 0, _ => .nil
  | _, _, _ + 1, .nil => .nil
  | _, _, n + 1, .cons a r => .cons a (RvAll.take n r)
theorem RvAll.drop : ∀ {vs : List V} {ds : List Dat} (n : Nat), RvAll W F H vs ds → RvAll W F H (vs.drop n) (ds.drop n)
  | _, _, 0, r => r
  | _, _, _ + 1, .nil => .nil
  | _, _, n + 1, .cons _ r => RvAll.drop n r
theorem RvAll.set : ∀ {vs : List V} {ds : List Dat} {v : V} {d : Dat} (n : Nat), RvAll W F H vs ds → Rv W F H v d → RvAll W F H (vs.set n v) (ds.set n d)
  | _, _, _, _, _, .nil, _ => .nil
  | _, _, _, _, 0, .cons _ r, q => .cons q r
  | _, _, _, _, n + 1, .cons a r, q => .cons a (RvAll.set n r q)
theorem RvAll.ints : ∀ {vs : List V} {ns : List Int}, RvAll W F H vs (ns.map Dat.int) → vs = ns.map V.int
  | _, [], .nil => rfl
  | _, n :: ns, .cons a r => by
    rw [RvAll.ints r]
    cases a
    rfl
theorem RvFs.get : ∀ {fs : List (Str × V)} {ks : List Str} {ds : List Dat} {i : Nat} {k : Str} {d : Dat}, RvFs W F H fs ks ds → ks[i]? = some k → ds[i]? = some d → ∃ v, fs.lookup k = some v ∧ Rv W F H v d
  | _, _, _, _, _, _, .nil, e, _ => by simp at e
  | _, _, _, 0, _, _, .cons e1 a r, e, e2 => by
    simp only [List.getElem?_cons_zero, Option.some.injEq] at e e2
    subst e
    subst e2
    exact ⟨_, e1, a⟩
  | _, _, _, i + 1, _, _, .cons e1 a r, e, e2 => by
    simp only [List.getElem?_cons_succ] at e e2
    exact RvFs.get (i := i) r e e2
end
structure Okk (W : Wd) (F : Addr → Prop) (H : Hp) : Prop where
  tr : ∀ a, F a → H a ≠ none
  po : ∀ p c, W.po = some (p, c) → PoolAt H p c ∧ ¬ F p ∧ ¬ F c
/-- not the pool -/
def NPo (W : Wd) (a : Addr) : Prop := ∀ p c, W.po = some (p, c) → a ≠ p
structure Ext (W : Wd) (F : Addr → Prop) (H : Hp) (F' : Addr → Prop) (H' : Hp) : Prop where
  up : ∀ a, F a → F' a
  dn : ∀ a, F' a → F a ∨ H a = none
  kp : ∀ a o, H a = some o → NPo W a → H' a = some o
  ok : Okk W F' H'
theorem Okk.np {W : Wd} {F : Addr → Prop} {H : Hp} (k : Okk W F H) {a : Addr} (f : F a) : NPo W a := fun p c e z => by
  subst z
  exact (k.po _ _ e).2.1 f
theorem Ext.sub {W : Wd} {F F' : Addr → Prop} {H H' : Hp} (k : Okk W F H) (x : Ext W F H F' H') : Sub F H F' H' := fun a f => by
  refine ⟨x.up a f, ?_⟩
  cases e : H a with
  | none => exact absurd e (k.tr a f)
  | some o => exact x.kp a o e (k.np f)
theorem Ext.refl {W : Wd} {F : Addr → Prop} {H : Hp} (k : Okk W F H) : Ext W F H F H := ⟨fun _ f => f, fun _ f => .inl f, fun _ _ e _ => e, k⟩
theorem Ext.there {W : Wd} {F F' : Addr → Prop} {H H' : Hp} (k : Okk W F H) (x : Ext W F H F' H') {a : Addr} (h : H' a = none) : H a = none := by
  cases e : H a with
  | none => rfl
  | some o =>
    by_cases z : ∃ p c, W.po = some (p, c) ∧ a = p
    · obtain ⟨p, c, e1, rfl⟩ := z
      obtain ⟨⟨_, _, _, _, _, _, q, _⟩, _⟩ := x.ok.po _ _ e1
      rw [q] at h
      cases h
    · rw [x.kp a o e (fun p c e1 e2 => z ⟨p, c, e1, e2⟩)] at h
      cases h
theorem Ext.trans {W : Wd} {F F' F2 : Addr → Prop} {H H' H2 : Hp} (k : Okk W F H) (x : Ext W F H F' H') (y : Ext W F' H' F2 H2) : Ext W F H F2 H2 :=
  ⟨fun a f => y.up a (x.up a f), fun a f => by
    rcases y.dn a f with z | z
    · exact x.dn a z
    · exact .inr (x.there k z), fun a o e n => y.kp a o (x.kp a o e n) n, y.ok⟩
theorem Okk.pne {W : Wd} {F : Addr → Prop} {H : Hp} (k : Okk W F H) {a : Addr} (n : H a = none) : ∀ p c, W.po = some (p, c) → a ≠ p ∧ a ≠ c := fun p c e => by
  obtain ⟨⟨ns, i, m, s, b, z, h1, h2, _⟩, _⟩ := k.po p c e
  exact ⟨(ne_of_none h1 n).symm, (ne_of_none h2 n).symm⟩
/-- a new object, settled at once -/
theorem Ext.new {W : Wd} {F : Addr → Prop} {H : Hp} (k : Okk W F H) {a : Addr} {o : HO} (n : H a = none) : Ext W F H (fun b => F b ∨ b = a) (upd H a o) := by
  refine ⟨fun _ f => .inl f, fun b f => ?_, fun b u e _ => ?_, ⟨fun b f => ?_, fun p c e => ?_⟩⟩
  · rcases f with f | rfl
    · exact .inl f
    · exact .inr n
  · rw [upd_ne (ne_of_none e n)]
    exact e
  · by_cases h : b = a
    · subst h
      rw [upd_same]
      exact fun z => (by cases z)
    · rw [upd_ne h]
      rcases f with f | f
      · exact k.tr b f
      · exact absurd f h
  · obtain ⟨h1, h2, h3⟩ := k.po p c e
    have ne := k.pne n p c e
    refine ⟨h1.mut ne.1 ne.2, fun f => ?_, fun f => ?_⟩
    · rcases f with f | f
      · exact h2 f
      · exact ne.1 f.symm
    · rcases f with f | f
      · exact h3 f
      · exact ne.2 f.symm
/-- a new object that is not settled yet -/
theorem Ext.lay {W : Wd} {F : Addr → Prop} {H : Hp} (k : Okk W F H) {a : Addr} {o : HO} (n : H a = none) : Ext W F H F (upd H a o) := by
  refine ⟨fun _ f => f, fun b f => .inl f, fun b u e _ => ?_, ⟨fun b f => ?_, fun p c e => ?_⟩⟩
  · rw [upd_ne (ne_of_none e n)]
    exact e
  · have h : b ≠ a := fun z => k.tr b f (by rw [z]; exact n)
    rw [upd_ne h]
    exact k.tr b f
  · obtain ⟨h1, h2, h3⟩ := k.po p c e
    have ne := k.pne n p c e
    exact ⟨h1.mut ne.1 ne.2, h2, h3⟩
/-- what a slot of a frame holds: nothing that is asked, data, a list of the def's own that it still changes -/
inductive Sl where
  | u
  | d (x : Dat)
  | o (xs : List Dat)
def SlOk (W : Wd) (H0 : Hp) (F : Addr → Prop) (H : Hp) (ov : Option V) : Sl → Prop
  | .u => True
  | .d x => ∃ v, ov = some v ∧ Rv W F H v x
  | .o xs => ∃ a vs, ov = some (.ref a) ∧ ¬ F a ∧ H0 a = none ∧ H a = some (.lst vs) ∧ RvAll W F H vs xs ∧ ∀ p c, W.po = some (p, c) → a ≠ p ∧ a ≠ c
structure Mt (W : Wd) (H0 : Hp) (F : Addr → Prop) (H : Hp) (σ : L2.St) (env : List Sl) : Prop where
  ln : env.length = σ.length
  at_ : ∀ (i : Nat) (s : Sl), env[i]? = some s → ∃ ov, σ[i]? = some ov ∧ SlOk W H0 F H ov s
  own : ∀ (i j : Nat) (xs ys : List Dat) (a : Addr), env[i]? = some (.o xs) → env[j]? = some (.o ys) → σ[i]? = some (some (.ref a)) → σ[j]? = some (some (.ref a)) → i = j
theorem SlOk.ext {W : Wd} {H0 : Hp} {F F' : Addr → Prop} {H H' : Hp} {ov : Option V} (k : Okk W F H) (x : Ext W F H F' H') : ∀ {s : Sl}, SlOk W H0 F H ov s → SlOk W H0 F' H' ov s
  | .u, _ => trivial
  | .d _, ⟨v, e, r⟩ => ⟨v, e, r.sub (x.sub k)⟩
  | .o _, ⟨a, vs, e, nf, n0, h, r, np⟩ => by
    refine ⟨a, vs, e, fun f => ?_, n0, x.kp a _ h (fun p c e z => (np p c e).1 z), r.sub (x.sub k), np⟩
    rcases x.dn a f with z | z
    · exact nf z
    · rw [z] at h
      cases h
theorem Mt.ext {W : Wd} {H0 : Hp} {F F' : Addr → Prop} {H H' : Hp} {σ : L2.St} {env : List Sl} (k : Okk W F H) (x : Ext W F H F' H') (m : Mt W H0 F H σ env) : Mt W H0 F' H' σ env :=
  ⟨m.ln, fun i s e => by
    obtain ⟨ov, e1, r⟩ := m.at_ i s e
    exact ⟨ov, e1, r.ext k x⟩, m.own⟩
theorem Mt.setD {W : Wd} {H0 : Hp} {F : Addr → Prop} {H : Hp} {σ : L2.St} {env : List Sl} (m : Mt W H0 F H σ env) (i : Nat) {v : V} {d : Dat} (r : Rv W F H v d) : Mt W H0 F H (σ.set i (some v)) (env.set i (.d d)) := by
  refine ⟨by rw [List.length_set, List.length_set, m.ln], fun j s e => ?_, fun j k xs ys a e1 e2 e3 e4 => ?_⟩
  · by_cases h : j = i
    · subst h
      have hl : j < env.length := by
        have := (List.getElem?_eq_some_iff.mp e).1
        rwa [List.length_set] at this
      rw [List.getElem?_set_self hl] at e
      cases e
      exact ⟨some v, List.getElem?_set_self (by rw [← m.ln]; exact hl), v, rfl, r⟩
    · rw [List.getElem?_set_ne (Ne.symm h)] at e ⊢
      exact m.at_ j s e
  · have n1 : j ≠ i := fun z => by
      subst z
      have hl : j < env.length := by
        have := (List.getElem?_eq_some_iff.mp e1).1
        rwa [List.length_set] at this
      rw [List.getElem?_set_self hl] at e1
      cases e1
    have n2 : k ≠ i := fun z => by
      subst z
      have hl : k < env.length := by
        have := (List.getElem?_eq_some_iff.mp e2).1
        rwa [List.length_set] at this
      rw [List.getElem?_set_self hl] at e2
      cases e2
    rw [List.getElem?_set_ne (Ne.symm n1)] at e1 e3
    rw [List.getElem?_set_ne (Ne.symm n2)] at e2 e4
    exact m.own j k xs ys a e1 e2 e3 e4
abbrev AEx := List Sl → (Dat → Prop) → Prop
abbrev AFr := List Sl → (List Dat → Prop) → Prop
abbrev ATs := List Sl → (Bool → Prop) → Prop
abbrev Rel := Wd → (Addr → Prop) → Hp → V → Dat → Prop
/-- a value that is read, not kept: data, or a list that the def still changes -/
inductive Pk (W : Wd) (F : Addr → Prop) (H : Hp) : V → Dat → Prop
  | rv {v : V} {d : Dat} : Rv W F H v d → Pk W F H v d
  | own {a : Addr} {vs : List V} {ds : List Dat} : H a = some (.lst vs) → NPo W a → RvAll W F H vs ds → Pk W F H (.ref a) (.lst ds)
structure Pst (R : Rel) : Prop where
  run : ∀ {W : Wd} {F F' : Addr → Prop} {H H' : Hp} {v : V} {d : Dat}, Okk W F H → Ext W F H F' H' → R W F H v d → R W F' H' v d
theorem pst_rv : Pst Rv := ⟨fun k x r => r.sub (x.sub k)⟩
theorem pst_pk : Pst Pk := ⟨fun k x r => by
  cases r with
  | rv r => exact .rv (r.sub (x.sub k))
  | own h n r => exact .own (x.kp _ _ h n) n (r.sub (x.sub k))⟩
theorem Pk.lst {W : Wd} {F : Addr → Prop} {H : Hp} {v : V} {ds : List Dat} (k : Okk W F H) (h : Pk W F H v (.lst ds)) : ∃ a vs, v = .ref a ∧ H a = some (.lst vs) ∧ NPo W a ∧ RvAll W F H vs ds := by
  cases h with
  | rv r =>
    cases r with
    | lst f h r => exact ⟨_, _, rfl, h, k.np f, r⟩
  | own h n r => exact ⟨_, _, rfl, h, n, r⟩
structure AEg (R : Rel) (W : Wd) (H0 : Hp) (te : TE) (ae : AEx) : Prop where
  run : ∀ (σ : L2.St) (env : List Sl) (F : Addr → Prop) (H : Hp) (Q : VK) (P : Dat → Prop), Okk W F H → Mt W H0 F H σ env → ae env P → (∀ d F' H' v, P d → Ext W F H F' H' → R W F' H' v d → Q v H') → te σ H Q
abbrev AExp : Wd → Hp → TE → AEx → Prop := AEg Rv
/-- a list that is made anew -/
structure AFrs (W : Wd) (H0 : Hp) (te : TE) (ae : AFr) : Prop where
  run : ∀ (σ : L2.St) (env : List Sl) (F : Addr → Prop) (H : Hp) (Q : VK) (P : List Dat → Prop), Okk W F H → Mt W H0 F H σ env → ae env P →
    (∀ ds F' H' a vs, P ds → Ext W F H F' H' → H a = none → ¬ F' a → H' a = some (.lst vs) → RvAll W F' H' vs ds → Q (.ref a) H') → te σ H Q
structure ATst (W : Wd) (H0 : Hp) (tt : TT) (at_ : ATs) : Prop where
  run : ∀ (σ : L2.St) (env : List Sl) (F : Addr → Prop) (H : Hp) (Q : Bool → Hp → Prop) (P : Bool → Prop), Okk W F H → Mt W H0 F H σ env → at_ env P → (∀ b F' H', P b → Ext W F H F' H' → Q b H') → tt σ H Q
/-- arguments, n of them -/
structure AArg (W : Wd) (H0 : Hp) (n : Nat) (ta : TA) (aa : AFr) : Prop where
  run : ∀ (σ : L2.St) (env : List Sl) (F : Addr → Prop) (H : Hp) (Q : List V → Hp → Prop) (P : List Dat → Prop), Okk W F H → Mt W H0 F H σ env → aa env P →
    (∀ ds F' H' vs, P ds → Ext W F H F' H' → RvAll W F' H' vs ds → ds.length = n → Q vs H') → ta σ H Q
def dAt : List Sl → Nat → Sl
  | [], _ => .u
  | s :: _, 0 => s
  | _ :: r, i + 1 => dAt r i
theorem dAt_get : ∀ {env : List Sl} {i : Nat} {s : Sl}, dAt env i = s → s ≠ .u → env[i]? = some s
  | [], _, _, e, n => absurd e.symm n
  | s :: _, 0, _, e, _ => congrArg some e
  | _ :: r, i + 1, s, e, n => by
    rw [List.getElem?_cons_succ]
    exact dAt_get (env := r) e n
def dQ : Sl → (Dat → Prop) → Prop
  | .d x, P => P x
  | _, _ => False
def dQ2 : Sl → (Dat → Prop) → Prop
  | .d x, P => P x
  | .o xs, P => P (.lst xs)
  | _, _ => False
def aVar (i : Nat) : AEx := fun env P => dQ (dAt env i) P
def aPeek (i : Nat) : AEx := fun env P => dQ2 (dAt env i) P
def aC (d : Dat) : AEx := fun _ P => P d
section
variable {W : Wd} {H0 : Hp} {te ta tb : TE} {ae ea eb : AEx}
theorem a_var {i : Nat} : AExp W H0 (tVar i) (aVar i) := ⟨fun σ env F H Q P ok m h k => by
  unfold aVar at h
  cases e : dAt env i with
  | d x =>
    rw [e] at h
    obtain ⟨_, e1, v, rfl, r⟩ := m.at_ i _ (dAt_get e (fun z => by cases z))
    exact ⟨v, e1, k x F H v h (.refl ok) r⟩
  | u =>
    rw [e] at h
    exact h.elim
  | o xs =>
    rw [e] at h
    exact h.elim⟩
theorem a_peek {i : Nat} : AEg Pk W H0 (tVar i) (aPeek i) := ⟨fun σ env F H Q P ok m h k => by
  unfold aPeek at h
  cases e : dAt env i with
  | d x =>
    rw [e] at h
    obtain ⟨_, e1, v, rfl, r⟩ := m.at_ i _ (dAt_get e (fun z => by cases z))
    exact ⟨v, e1, k x F H v h (.refl ok) (.rv r)⟩
  | u =>
    rw [e] at h
    exact h.elim
  | o xs =>
    rw [e] at h
    obtain ⟨_, e1, a, vs, rfl, nf, n0, ha, r, np⟩ := m.at_ i _ (dAt_get e (fun z => by cases z))
    exact ⟨_, e1, k _ F H _ h (.refl ok) (.own ha (fun p c e => (np p c e).1) r)⟩⟩
theorem a_pk (h : AExp W H0 te ae) : AEg Pk W H0 te ae := ⟨fun σ env F H Q P ok m q k => h.run σ env F H Q P ok m q fun d F' H' v p x r => k d F' H' v p x (.rv r)⟩
theorem a_int {i : Int} : AExp W H0 (tC (.int i)) (aC (.int i)) := ⟨fun _ _ F H _ _ ok _ h k => k _ F H _ h (.refl ok) (.int i)⟩
theorem a_bl {b : Bool} : AExp W H0 (tC (.bl b)) (aC (.bl b)) := ⟨fun _ _ F H _ _ ok _ h k => k _ F H _ h (.refl ok) (.bl b)⟩
theorem a_str {x : Str} : AExp W H0 (tC (.str x)) (aC (.str x)) := ⟨fun _ _ F H _ _ ok _ h k => k _ F H _ h (.refl ok) (.str x)⟩
theorem a_non : AExp W H0 (tC .non) (aC .non) := ⟨fun _ _ F H _ _ ok _ h k => k _ F H _ h (.refl ok) .non⟩
/-- a new list, settled at once -/
def aFz (ae : AFr) : AEx := fun env P => ae env fun ds => P (.lst ds)
theorem Ext.fz {F F' : Addr → Prop} {H H' : Hp} {a : Addr} {o : HO} (ok : Okk W F H) (x : Ext W F H F' H') (n : H a = none) (h : H' a = some o) : Ext W F H (fun b => F' b ∨ b = a) H' := by
  have tr : ∀ b, (F' b ∨ b = a) → H' b ≠ none := fun b f => by
    rcases f with f | rfl
    · exact x.ok.tr b f
    · rw [h]
      exact fun z => by cases z
  have po : ∀ p c, W.po = some (p, c) → PoolAt H' p c ∧ ¬ (F' p ∨ p = a) ∧ ¬ (F' c ∨ c = a) := fun p c e => by
    obtain ⟨h1, h2, h3⟩ := x.ok.po p c e
    have ne := ok.pne n p c e
    refine ⟨h1, fun f => ?_, fun f => ?_⟩
    · rcases f with f | f
      · exact h2 f
      · exact ne.1 f.symm
    · rcases f with f | f
      · exact h3 f
      · exact ne.2 f.symm
  refine ⟨fun b f => .inl (x.up b f), fun b f => ?_, x.kp, ⟨tr, po⟩⟩
  rcases f with f | rfl
  · exact x.dn b f
  · exact .inr n
theorem sub_fz {F' : Addr → Prop} {H' : Hp} (a : Addr) : Sub F' H' (fun b => F' b ∨ b = a) H' := fun _ f => ⟨.inl f, rfl⟩
theorem a_fz {af : AFr} (h : AFrs W H0 te af) : AExp W H0 te (aFz af) := ⟨fun σ env F H Q P ok m q k => h.run σ env F H Q (fun ds => P (.lst ds)) ok m q fun ds F' H' a vs p x n nf ha r =>
  k (.lst ds) (fun b => F' b ∨ b = a) H' (.ref a) p (x.fz ok n ha) (.lst (.inr rfl) ha (r.sub (sub_fz a)))⟩
def a2 (f : Dat → Dat → (Dat → Prop) → Prop) (ea eb : AEx) : AEx := fun env P => ea env fun x => eb env fun y => f x y P
/-- an operation on values reads as f on data -/
def ROk (W : Wd) (S1 S2 S3 : Rel) (r : L2.R2) (f : Dat → Dat → (Dat → Prop) → Prop) : Prop :=
  ∀ (F : Addr → Prop) (H : Hp) (x y : V) (d e : Dat) (Q : VK) (P : Dat → Prop), Okk W F H → S1 W F H x d → S2 W F H y e → f d e P → (∀ z F' H' v, P z → Ext W F H F' H' → S3 W F' H' v z → Q v H') → r x y H Q
theorem a_op {S1 S2 S3 : Rel} {r : L2.R2} {f : Dat → Dat → (Dat → Prop) → Prop} (pr : Pst S1) (hr : ROk W S1 S2 S3 r f) (ha : AEg S1 W H0 ta ea) (hb : AEg S2 W H0 tb eb) : AEg S3 W H0 (tOp r ta tb) (a2 f ea eb) :=
  ⟨fun σ env F H Q P ok m q k => ha.run σ env F H _ _ ok m q fun d F1 H1 v p1 x1 r1 => hb.run σ env F1 H1 _ _ x1.ok (m.ext ok x1) p1 fun e F2 H2 u p2 x2 r2 =>
    hr F2 H2 v u d e Q P x2.ok (pr.run x1.ok x2 r1) r2 p2 fun z F3 H3 w p3 x3 r3 => k z F3 H3 w p3 ((x1.trans ok x2).trans ok x3) r3⟩
def kI (C : Int → Int → Prop) (g : Int → Int → Dat) : Dat → Dat → (Dat → Prop) → Prop
  | .int i, .int j, P => C i j ∧ P (g i j)
  | _, _, _ => False
def kI0 (g : Int → Int → Dat) : Dat → Dat → (Dat → Prop) → Prop
  | .int i, .int j, P => P (g i j)
  | _, _, _ => False
theorem rok_I {C : Int → Int → Prop} {g : Int → Int → Int} : ROk W Rv Rv Rv (rI C fun i j => .int (g i j)) (kI C fun i j => .int (g i j)) := fun F H x y d e Q P ok r1 r2 q k => by
  cases r1 <;> cases r2 <;> first | exact q.elim | exact ⟨_, _, rfl, rfl, q.1, k _ F H _ q.2 (.refl ok) (.int _)⟩
theorem rok_I0 {g : Int → Int → Int} : ROk W Rv Rv Rv (rI0 fun i j => .int (g i j)) (kI0 fun i j => .int (g i j)) := fun F H x y d e Q P ok r1 r2 q k => by
  cases r1 <;> cases r2 <;> first | exact q.elim | exact ⟨_, _, rfl, rfl, k _ F H _ q (.refl ok) (.int _)⟩
theorem rok_B0 {g : Int → Int → Bool} : ROk W Rv Rv Rv (rI0 fun i j => .bl (g i j)) (kI0 fun i j => .bl (g i j)) := fun F H x y d e Q P ok r1 r2 q k => by
  cases r1 <;> cases r2 <;> first | exact q.elim | exact ⟨_, _, rfl, rfl, k _ F H _ q (.refl ok) (.bl _)⟩
/-- == of two ints, texts, bools or None -/
def kEq (n : Bool) : Dat → Dat → (Dat → Prop) → Prop
  | .int i, .int j, P => P (.bl (if n then !decide (i = j) else decide (i = j)))
  | .str i, .str j, P => P (.bl (if n then !decide (i = j) else decide (i = j)))
  | .bl i, .bl j, P => P (.bl (if n then !decide (i = j) else decide (i = j)))
  | .non, .non, P => P (.bl (!n))
  | .non, .int _, P => P (.bl n)
  | .non, .bl _, P => P (.bl n)
  | .non, .str _, P => P (.bl n)
  | .int _, .non, P => P (.bl n)
  | .bl _, .non, P => P (.bl n)
  | .str _, .non, P => P (.bl n)
  | .int _, .str _, P => P (.bl n)
  | .str _, .int _, P => P (.bl n)
  | .bl _, .str _, P => P (.bl n)
  | .str _, .bl _, P => P (.bl n)
  | _, _, _ => False
theorem dec_i {i j : Int} : decide (V.int i = V.int j) = decide (i = j) := by
  by_cases h : i = j
  · subst h; simp
  · rw [decide_eq_false h, decide_eq_false (fun z => h (V.int.inj z))]
theorem dec_s {i j : Str} : decide (V.str i = V.str j) = decide (i = j) := by
  by_cases h : i = j
  · subst h; simp
  · rw [decide_eq_false h, decide_eq_false (fun z => h (V.str.inj z))]
theorem dec_b {i j : Bool} : decide (V.bl i = V.bl j) = decide (i = j) := by
  cases i <;> cases j <;> rfl
theorem rok_eq : ROk W Rv Rv Rv rEq (kEq false) := fun F H x y d e Q P ok r1 r2 q k => by
  cases r1 <;> cases r2 <;> first
    | exact q.elim
    | exact ⟨rfl, by rw [dec_i]; exact k _ F H _ q (.refl ok) (.bl _)⟩
    | exact ⟨rfl, by rw [dec_s]; exact k _ F H _ q (.refl ok) (.bl _)⟩
    | exact ⟨rfl, by rw [dec_b]; exact k _ F H _ q (.refl ok) (.bl _)⟩
    | exact ⟨rfl, k _ F H _ q (.refl ok) (.bl _)⟩
theorem rok_ne : ROk W Rv Rv Rv rNe (kEq true) := fun F H x y d e Q P ok r1 r2 q k => by
  cases r1 <;> cases r2 <;> first
    | exact q.elim
    | exact ⟨rfl, by rw [dec_i]; exact k _ F H _ q (.refl ok) (.bl _)⟩
    | exact ⟨rfl, by rw [dec_s]; exact k _ F H _ q (.refl ok) (.bl _)⟩
    | exact ⟨rfl, by rw [dec_b]; exact k _ F H _ q (.refl ok) (.bl _)⟩
    | exact ⟨rfl, k _ F H _ q (.refl ok) (.bl _)⟩
/-- x[i] -/
def oQ {α : Type} : Option α → (α → Prop) → Prop
  | some x, P => P x
  | none, _ => False
def kIx : Dat → Dat → (Dat → Prop) → Prop
  | .lst xs, .int i, P => oQ (atI xs i) P
  | .tup xs, .int i, P => oQ (atI xs i) P
  | _, _, _ => False
theorem RvAll.atI {F : Addr → Prop} {H : Hp} {vs : List V} {ds : List Dat} {i : Int} {d : Dat} (r : RvAll W F H vs ds) (e : L2.atI ds i = some d) : ∃ v, L2.atI vs i = some v ∧ Rv W F H v d := by
  unfold L2.atI at e ⊢
  rw [r.length]
  cases h : ixN ds.length i with
  | none =>
    rw [h] at e
    cases e
  | some j =>
    rw [h] at e
    exact r.get e
theorem rok_ixl : ROk W Pk Rv Rv (rIxL W.K) (fun x y P => match x with | .lst _ => kIx x y P | _ => False) := fun F H x y d e Q P ok r1 r2 q k => by
  cases d with
  | lst xs =>
    obtain ⟨a, vs, rfl, ha, np, r⟩ := r1.lst ok
    cases r2 with
    | int i =>
      have q : oQ (atI xs i) P := q
      cases h : atI xs i with
      | none =>
        rw [h] at q
        exact q.elim
      | some z =>
        rw [h] at q
        obtain ⟨v, e1, rv⟩ := r.atI h
        exact ⟨a, vs, i, v, rfl, rfl, SqL.of ha, e1, k z F H v q (.refl ok) rv⟩
    | _ => exact q.elim
  | _ => exact q.elim
theorem rok_ixt : ROk W Pk Rv Rv (rIxT W.K) (fun x y P => match x with | .tup _ => kIx x y P | _ => False) := fun F H x y d e Q P ok r1 r2 q k => by
  cases d with
  | tup xs =>
    cases r1 with
    | rv r1 =>
      cases r1 with
      | tup ha r =>
        cases r2 with
        | int i =>
          have q : oQ (atI xs i) P := q
          cases h : atI xs i with
          | none =>
            rw [h] at q
            exact q.elim
          | some z =>
            rw [h] at q
            obtain ⟨v, e1, rv⟩ := r.atI h
            exact ⟨_, _, i, v, rfl, rfl, ha.sq, e1, k z F H v q (.refl ok) rv⟩
        | _ => exact q.elim
  | _ => exact q.elim
theorem rok_ix : ROk W Pk Rv Rv (rIx W.K) kIx := fun F H x y d e Q P ok r1 r2 q k => by
  cases d with
  | lst xs => exact .inl (rok_ixl F H x y _ e Q P ok r1 r2 q k)
  | tup xs => exact .inr (.inl (rok_ixt F H x y _ e Q P ok r1 r2 q k))
  | _ => exact q.elim
end
section
variable {W : Wd} {H0 : Hp} {te ta tb tc : TE} {ae ea eb ec : AEx} {t u : TT} {at_ au : ATs}
def aNil : AFr := fun _ P => P []
def aCons (ea : AEx) (er : AFr) : AFr := fun env P => ea env fun x => er env fun xs => P (x :: xs)
theorem a_nil : AArg W H0 0 tNil aNil := ⟨fun _ _ F H _ _ ok _ h k => k [] F H [] h (.refl ok) .nil rfl⟩
theorem a_cons {n : Nat} {tr : TA} {er : AFr} (ha : AExp W H0 ta ea) (hr : AArg W H0 n tr er) : AArg W H0 (n + 1) (tCons ta tr) (aCons ea er) :=
  ⟨fun σ env F H Q P ok m q k => ha.run σ env F H _ _ ok m q fun d F1 H1 v p1 x1 r1 => hr.run σ env F1 H1 _ _ x1.ok (m.ext ok x1) p1 fun ds F2 H2 vs p2 x2 r2 l2 =>
    k (d :: ds) F2 H2 (v :: vs) p2 (x1.trans ok x2) (.cons (r1.sub (x2.sub x1.ok)) r2) (congrArg (· + 1) l2)⟩
def aTup (aa : AFr) : AEx := fun env P => aa env fun ds => P (.tup ds)
theorem a_tup {n : Nat} {tr : TA} {aa : AFr} (h : AArg W H0 n tr aa) (hn : n ≤ 100000 := by decide) : AExp W H0 (tTupF tr) (aTup aa) :=
  ⟨fun σ env F H Q P ok m q k => h.run σ env F H _ _ ok m q fun ds F1 H1 vs p1 x1 r1 l1 => ⟨Nat.le_of_lt (len_size (by rw [r1.length]; omega)), fun a o n tp => by
    have x2 : Ext W F1 H1 _ _ := Ext.new (o := o) x1.ok n
    exact k (.tup ds) _ _ _ p1 (x1.trans ok x2) (.tup ⟨.inr rfl, o, upd_same, tp⟩ (r1.sub (x2.sub x1.ok)))⟩⟩
theorem a_lst {n : Nat} {tr : TA} {aa : AFr} (h : AArg W H0 n tr aa) (hn : n ≤ 100000 := by decide) : AFrs W H0 (tLst tr) aa :=
  ⟨fun σ env F H Q P ok m q k => h.run σ env F H _ _ ok m q fun ds F1 H1 vs p1 x1 r1 l1 => ⟨Nat.le_of_lt (len_size (by rw [r1.length]; omega)), fun a n => by
    have x2 : Ext W F1 H1 _ _ := Ext.lay (o := .lst vs) x1.ok n
    exact k ds _ _ a vs p1 (x1.trans ok x2) (x1.there ok n) (fun f => x1.ok.tr a f n) upd_same (r1.sub (x2.sub x1.ok))⟩⟩
def aTest (ea : AEx) : ATs := fun env P => ea env fun x => match x with | .bl b => P b | _ => False
theorem a_test (h : AExp W H0 ta ea) : ATst W H0 (tTest ta) (aTest ea) := ⟨fun σ env F H Q P ok m q k => h.run σ env F H _ _ ok m q fun d F1 H1 v p1 x1 r1 => by
  cases r1 <;> first | exact p1.elim | exact ⟨_, rfl, k _ F1 H1 p1 x1⟩⟩
theorem a_tb (h : AExp W H0 ta ea) : ATst W H0 (tB ta) (aTest ea) := ⟨fun σ env F H Q P ok m q k => h.run σ env F H _ _ ok m q fun d F1 H1 v p1 x1 r1 => by
  cases r1 <;> first | exact p1.elim | exact ⟨_, rfl, k _ F1 H1 p1 x1⟩⟩
def aNot (a : ATs) : ATs := fun env P => a env fun b => P (!b)
theorem a_not (h : ATst W H0 t at_) : ATst W H0 (tNot t) (aNot at_) := ⟨fun σ env F H Q P ok m q k => h.run σ env F H _ _ ok m q fun b F1 H1 p1 x1 => k _ F1 H1 p1 x1⟩
/-- two ways by a bool: kept together, so that it can be told first -/
def two (b : Bool) (p q : Prop) : Prop := match b with
  | true => p
  | false => q
def aAnd (a c : ATs) : ATs := fun env P => a env fun b => two b (c env P) (P false)
def aOr (a c : ATs) : ATs := fun env P => a env fun b => two b (P true) (c env P)
theorem a_and (h : ATst W H0 t at_) (h2 : ATst W H0 u au) : ATst W H0 (tAnd t u) (aAnd at_ au) := ⟨fun σ env F H Q P ok m q k => h.run σ env F H _ _ ok m q fun b F1 H1 p1 x1 => by
  cases b with
  | true =>
    rw [if_pos rfl]
    exact h2.run σ env F1 H1 _ _ x1.ok (m.ext ok x1) p1 fun b F2 H2 p2 x2 => k b F2 H2 p2 (x1.trans ok x2)
  | false =>
    rw [if_neg Bool.false_ne_true]
    exact k false F1 H1 p1 x1⟩
theorem a_or (h : ATst W H0 t at_) (h2 : ATst W H0 u au) : ATst W H0 (tOr t u) (aOr at_ au) := ⟨fun σ env F H Q P ok m q k => h.run σ env F H _ _ ok m q fun b F1 H1 p1 x1 => by
  cases b with
  | true =>
    rw [if_pos rfl]
    exact k true F1 H1 p1 x1
  | false =>
    rw [if_neg Bool.false_ne_true]
    exact h2.run σ env F1 H1 _ _ x1.ok (m.ext ok x1) p1 fun b F2 H2 p2 x2 => k b F2 H2 p2 (x1.trans ok x2)⟩
def bQ : Dat → (Bool → Prop) → Prop
  | .bl b, P => P b
  | _, _ => False
def aAndV (ea eb : AEx) : AEx := fun env P => ea env fun x => bQ x fun b => two b (eb env P) (P (.bl false))
def aOrV (ea eb : AEx) : AEx := fun env P => ea env fun x => bQ x fun b => two b (P (.bl true)) (eb env P)
def aNotV (ea : AEx) : AEx := fun env P => ea env fun x => bQ x fun b => P (.bl (!b))
theorem a_andV (ha : AExp W H0 ta ea) (hb : AExp W H0 tb eb) : AExp W H0 (tAndV ta tb) (aAndV ea eb) := ⟨fun σ env F H Q P ok m q k => ha.run σ env F H _ _ ok m q fun d F1 H1 v p1 x1 r1 => by
  cases r1 with
  | bl b =>
    refine ⟨b, rfl, ?_⟩
    cases b with
    | true =>
      rw [if_pos rfl]
      exact hb.run σ env F1 H1 _ _ x1.ok (m.ext ok x1) p1 fun e F2 H2 w p2 x2 r2 => k e F2 H2 w p2 (x1.trans ok x2) r2
    | false =>
      rw [if_neg Bool.false_ne_true]
      exact k _ F1 H1 _ p1 x1 (.bl false)
  | _ => exact p1.elim⟩
theorem a_orV (ha : AExp W H0 ta ea) (hb : AExp W H0 tb eb) : AExp W H0 (tOrV ta tb) (aOrV ea eb) := ⟨fun σ env F H Q P ok m q k => ha.run σ env F H _ _ ok m q fun d F1 H1 v p1 x1 r1 => by
  cases r1 with
  | bl b =>
    refine ⟨b, rfl, ?_⟩
    cases b with
    | true =>
      rw [if_pos rfl]
      exact k _ F1 H1 _ p1 x1 (.bl true)
    | false =>
      rw [if_neg Bool.false_ne_true]
      exact hb.run σ env F1 H1 _ _ x1.ok (m.ext ok x1) p1 fun e F2 H2 w p2 x2 r2 => k e F2 H2 w p2 (x1.trans ok x2) r2
  | _ => exact p1.elim⟩
theorem a_notV (ha : AExp W H0 ta ea) : AExp W H0 (tNotV ta) (aNotV ea) := ⟨fun σ env F H Q P ok m q k => ha.run σ env F H _ _ ok m q fun d F1 H1 v p1 x1 r1 => by
  cases r1 with
  | bl b => exact ⟨b, rfl, k _ F1 H1 _ p1 x1 (.bl _)⟩
  | _ => exact p1.elim⟩
def aIf (c : ATs) (ea eb : AEx) : AEx := fun env P => c env fun b => two b (ea env P) (eb env P)
theorem a_if (h : ATst W H0 t at_) (ha : AExp W H0 ta ea) (hb : AExp W H0 tb eb) : AExp W H0 (tIf t ta tb) (aIf at_ ea eb) := ⟨fun σ env F H Q P ok m q k => h.run σ env F H _ _ ok m q fun b F1 H1 p1 x1 => by
  cases b with
  | true =>
    rw [if_pos rfl]
    exact ha.run σ env F1 H1 _ _ x1.ok (m.ext ok x1) p1 fun e F2 H2 w p2 x2 r2 => k e F2 H2 w p2 (x1.trans ok x2) r2
  | false =>
    rw [if_neg Bool.false_ne_true]
    exact hb.run σ env F1 H1 _ _ x1.ok (m.ext ok x1) p1 fun e F2 H2 w p2 x2 r2 => k e F2 H2 w p2 (x1.trans ok x2) r2⟩
/-- a < b < c -/
def aChain (f g : Dat → Dat → (Dat → Prop) → Prop) (ea eb ec : AEx) : AEx := fun env P => ea env fun x => eb env fun y => f x y fun z => bQ z fun b => two b (ec env fun w => g y w P) (P (.bl false))
def a1 (f : Dat → (Dat → Prop) → Prop) (ea : AEx) : AEx := fun env P => ea env fun x => f x P
def kNeg : Dat → (Dat → Prop) → Prop
  | .int i, P => P (.int (-i))
  | _, _ => False
/-- the field i of an object of the class k -/
def kFld (c i : Nat) : Dat → (Dat → Prop) → Prop
  | .obj c' ds, P => c' = c ∧ oQ ds[i]? P
  | _, _ => False
theorem a_fld {c i : Nat} {f : Str} (cl : Cls W.K (W.ca c)) (na : NoAttr W.K (W.ca c) f) (hf : (clsN c)[i]? = some f) (ha : AExp W H0 ta ea) : AExp W H0 (tFld W.K ta f) (a1 (kFld c i) ea) := ⟨fun σ env F H Q P ok m q k => ha.run σ env F H _ _ ok m q fun d F1 H1 v p1 x1 r1 => by
  cases r1 with
  | @obj a dx c' fs ds fa hA rf no =>
    obtain ⟨rfl, p1⟩ := p1
    cases e : ds[i]? with
    | none =>
      rw [e] at p1
      exact p1.elim
    | some d =>
      rw [e] at p1
      obtain ⟨v, e1, rv⟩ := rf.get hf e
      exact ⟨a, _, dx, fs, v, rfl, hA, cl, na, e1, k d F1 H1 v p1 x1 rv⟩
  | _ => exact p1.elim⟩
def kIsN (n : Bool) : Dat → Dat → (Dat → Prop) → Prop := fun x y P => match y with
  | .non => (match x with
    | .non => P (.bl (!n))
    | _ => P (.bl n))
  | _ => False
theorem rok_isN : ROk W Rv Rv Rv (fun x y H Q => y = V.non ∧ Q (.bl (decide (x = V.non))) H) (kIsN false) := fun F H x y d e Q P ok r1 r2 q k => by
  cases r2 with
  | non => exact ⟨rfl, by cases r1 <;> exact k _ F H _ q (.refl ok) (.bl _)⟩
  | _ => exact q.elim
theorem rok_notN : ROk W Rv Rv Rv (fun x y H Q => y = V.non ∧ Q (.bl (!decide (x = V.non))) H) (kIsN true) := fun F H x y d e Q P ok r1 r2 q k => by
  cases r2 with
  | non => exact ⟨rfl, by cases r1 <;> exact k _ F H _ q (.refl ok) (.bl _)⟩
  | _ => exact q.elim
end
abbrev ASp := List Dat → (Dat → Prop) → Prop
abbrev ASpF := List Dat → (List Dat → Prop) → Prop
def toSp (K : PySem.W.Frag) (ca : Nat → Addr) (asp : ASp) : Sp := fun vs H Q _ => ∃ (po : Option (Addr × Addr)) (F : Addr → Prop) (ds : List Dat) (P : Dat → Prop), Okk ⟨K, ca, po⟩ F H ∧ RvAll ⟨K, ca, po⟩ F H vs ds ∧ asp ds P ∧
  ∀ d F' H' v, P d → Ext ⟨K, ca, po⟩ F H F' H' → Rv ⟨K, ca, po⟩ F' H' v d → Q v H'
def aCall (asp : ASp) (aa : AFr) : AEx := fun env P => aa env fun ds => asp ds P
/-- a method: the object ahead of the arguments -/
def aMeth (c : Nat) (asp : ASp) (ea : AEx) (aa : AFr) : AEx := fun env P => ea env fun x => (match x with
  | .obj c' _ => c' = c
  | _ => False) ∧ aa env fun ds => asp (x :: ds) P
section
variable {K : PySem.W.Frag} {ca : Nat → Addr} {po : Option (Addr × Addr)} {H0 : Hp} {te ta tb : TE} {ae ea eb : AEx}
theorem a_call {n : Nat} {E : XK} {t : TA} {aa : AFr} {asp : ASp} (h : AArg ⟨K, ca, po⟩ H0 n t aa) : AExp ⟨K, ca, po⟩ H0 (tCall (toSp K ca asp) [] E t) (aCall asp aa) :=
  ⟨fun σ env F H Q P ok m q k => h.run σ env F H _ _ ok m q fun ds F1 H1 vs p1 x1 r1 _ => by
    rw [List.append_nil]
    exact ⟨po, F1, ds, P, x1.ok, r1, p1, fun d F' H' v p x r => k d F' H' v p (x1.trans ok x) r⟩⟩
theorem a_meth {n c : Nat} {E : XK} {mt : Str} {t : TA} {aa : AFr} {asp : ASp} (nm : mt ∉ clsN c) (ha : AExp ⟨K, ca, po⟩ H0 ta ea) (h : AArg ⟨K, ca, po⟩ H0 n t aa) : AExp ⟨K, ca, po⟩ H0 (tMeth (ca c) mt (toSp K ca asp) [] E ta t) (aMeth c asp ea aa) :=
  ⟨fun σ env F H Q P ok m q k => ha.run σ env F H _ _ ok m q fun d F1 H1 v p1 x1 r1 => by
    cases r1 with
    | @obj a dx c' fs ds fa hA rf no =>
      obtain ⟨e, p1⟩ := p1
      have e : c' = c := e
      subst e
      refine ⟨a, dx, fs, rfl, hA, no mt nm, ?_⟩
      refine h.run σ env F1 H1 _ _ x1.ok (m.ext ok x1) p1 fun es F2 H2 vs p2 x2 r2 _ => ?_
      rw [List.append_nil]
      exact ⟨po, F2, _, P, x2.ok, .cons ((Rv.obj fa hA rf no).sub (x2.sub x1.ok)) r2, p2, fun d F' H' v p x r => k d F' H' v p ((x1.trans ok x2).trans ok x) r⟩
    | _ => exact p1.1.elim⟩
end
structure ItOk (W : Wd) (J : It) (F : Addr → Prop) (H : Hp) (ds : List Dat) : Prop where
  it : ∀ (F2 : Addr → Prop) (H2 : Hp), Okk W F2 H2 → Sub F H F2 H2 → ∀ (i : Nat) (d : Dat), ds[i]? = some d → J.go i H2 ∧ ∀ x H3, J.yld i H2 x H3 → ∃ F3, Ext W F2 H2 F3 H3 ∧ Rv W F3 H3 x d
  done : ∀ (F2 : Addr → Prop) (H2 : Hp), Okk W F2 H2 → Sub F H F2 H2 → J.stop ds.length H2
structure AIter (W : Wd) (H0 : Hp) (wi : TI) (ai : AFr) : Prop where
  run : ∀ (σ : L2.St) (env : List Sl) (F : Addr → Prop) (H : Hp) (R : It → Hp → Prop) (P : List Dat → Prop), Okk W F H → Mt W H0 F H σ env → ai env P →
    (∀ ds F' H' J, P ds → Ext W F H F' H' → ItOk W J F' H' ds → R J H') → wi σ H R
def lQ : Dat → (List Dat → Prop) → Prop
  | .lst xs, P => P xs
  | _, _ => False
def tQ : Dat → (List Dat → Prop) → Prop
  | .tup xs, P => P xs
  | _, _ => False
/-- over a list (k = false) or a tuple (k = true) -/
def kQ (k : Bool) : Dat → (List Dat → Prop) → Prop := fun d P => match k with
  | true => tQ d P
  | false => lQ d P
def iSeq (q : Dat → (List Dat → Prop) → Prop) (ea : AEx) : AFr := fun env P => ea env fun x => q x P
def iRan (aa : AFr) : AFr := fun env P => aa env fun ds => match ds with
  | [.int j] => j < 1000000000000 ∧ -1000000000000 < j ∧ P ((List.range j.toNat).map fun (i : Nat) => Dat.int (0 + (i : Int)))
  | [.int i, .int j] => (j < 1000000000000 ∧ -1000000000000 < j ∧ i < 1000000000000 ∧ -1000000000000 < i) ∧ P ((List.range (j - i).toNat).map fun (n : Nat) => Dat.int (i + (n : Int)))
  | _ => False
section
variable {W : Wd} {H0 : Hp} {te ta tb : TE} {ae ea eb : AEx}
theorem it_list {F : Addr → Prop} {H : Hp} {a : Addr} {vs : List V} {ds : List Dat} (f : F a) (h : H a = some (.lst vs)) (r : RvAll W F H vs ds) : ItOk W (Itl W.K a) F H ds := by
  refine ⟨fun F2 H2 ok s i d e => ?_, fun F2 H2 ok s => ?_⟩
  · have h2 : H2 a = some (.lst vs) := (s a f).2.trans h
    obtain ⟨v, e1, rv⟩ := r.get e
    refine ⟨⟨vs, v, SqL.of h2, e1⟩, fun x H3 y => ?_⟩
    obtain ⟨rfl, y⟩ := y
    have e2 := y vs (SqL.of h2)
    rw [e1] at e2
    cases e2
    exact ⟨F2, .refl ok, rv.sub s⟩
  · exact ⟨vs, SqL.of ((s a f).2.trans h), by rw [r.length]; exact Nat.le_refl _⟩
theorem it_tup {F : Addr → Prop} {H : Hp} {a : Addr} {vs : List V} {ds : List Dat} (h : FzT W F H a vs) (r : RvAll W F H vs ds) : ItOk W (Itt W.K a) F H ds := by
  refine ⟨fun F2 H2 ok s i d e => ?_, fun F2 H2 ok s => ?_⟩
  · have h2 := (h.sub s).sq
    obtain ⟨v, e1, rv⟩ := r.get e
    refine ⟨⟨vs, v, h2, e1⟩, fun x H3 y => ?_⟩
    obtain ⟨rfl, y⟩ := y
    have e2 := y vs h2
    rw [e1] at e2
    cases e2
    exact ⟨F2, .refl ok, rv.sub s⟩
  · exact ⟨vs, (h.sub s).sq, by rw [r.length]; exact Nat.le_refl _⟩
theorem i_list (ha : AExp W H0 ta ea) : AIter W H0 (iList W.K ta) (iSeq lQ ea) := ⟨fun σ env F H R P ok m q k => ha.run σ env F H _ _ ok m q fun d F1 H1 v p1 x1 r1 => by
  cases r1 with
  | lst f h r => exact ⟨_, rfl, ⟨_, SqL.of h⟩, k _ F1 H1 _ p1 x1 (it_list f h r)⟩
  | _ => exact p1.elim⟩
theorem i_tup (ha : AExp W H0 ta ea) : AIter W H0 (iTup W.K ta) (iSeq tQ ea) := ⟨fun σ env F H R P ok m q k => ha.run σ env F H _ _ ok m q fun d F1 H1 v p1 x1 r1 => by
  cases r1 with
  | tup h r => exact ⟨_, rfl, ⟨_, h.sq⟩, k _ F1 H1 _ p1 x1 (it_tup h r)⟩
  | _ => exact p1.elim⟩
theorem it_ran {F : Addr → Prop} {H : Hp} (lo : Int) (n : Nat) : ItOk W (Itr lo n) F H ((List.range n).map fun (i : Nat) => Dat.int (lo + (i : Int))) := by
  refine ⟨fun F2 H2 ok s i d e => ?_, fun F2 H2 ok s => ?_⟩
  · rw [List.getElem?_map] at e
    cases h : (List.range n)[i]? with
    | none =>
      rw [h] at e
      cases e
    | some j =>
      rw [h] at e
      obtain ⟨hl, e1⟩ := List.getElem?_eq_some_iff.mp h
      rw [List.getElem_range] at e1
      subst e1
      rw [List.length_range] at hl
      cases e
      refine ⟨hl, fun x H3 y => ?_⟩
      obtain ⟨rfl, rfl⟩ := y
      exact ⟨F2, .refl ok, .int _⟩
  · rw [List.length_map, List.length_range]
    exact Nat.le_refl n
theorem i_ran1 {t : TA} {aa : AFr} (h : AArg W H0 1 t aa) : AIter W H0 (iRng1 t) (iRan aa) := ⟨fun σ env F H R P ok m q k => h.run σ env F H _ _ ok m q fun ds F1 H1 vs p1 x1 r1 l1 => by
  match ds, l1, p1, r1 with
  | [.int j], _, p1, .cons r .nil =>
    obtain ⟨p0, p2, p1⟩ := p1
    cases r
    exact ⟨j, rfl, by omega, by omega, k _ F1 H1 _ p1 x1 (it_ran 0 j.toNat)⟩⟩
end
abbrev ATg := Dat → List Sl → (List Sl → Prop) → Prop
/-- vs: the slots that it stores to -/
structure ATgt (W : Wd) (H0 : Hp) (vs : List Nat) (g : TG) (ag : ATg) : Prop where
  run : ∀ (v : V) (d : Dat) (σ : L2.St) (env : List Sl) (F : Addr → Prop) (H : Hp) (Q : L2.St → Hp → Prop) (P : List Sl → Prop), Okk W F H → Mt W H0 F H σ env → Rv W F H v d → ag d env P →
    (∀ env' σ', P env' → Mt W H0 F H σ' env' → wipe σ' vs = wipe σ vs → Q σ' H) → g v σ H Q
structure ATgs (W : Wd) (H0 : Hp) (vs : List Nat) (n : Nat) (g : TGs) (ag : List Dat → List Sl → (List Sl → Prop) → Prop) : Prop where
  run : ∀ (xs : List V) (ds : List Dat) (σ : L2.St) (env : List Sl) (F : Addr → Prop) (H : Hp) (Q : L2.St → Hp → Prop) (P : List Sl → Prop), Okk W F H → Mt W H0 F H σ env → RvAll W F H xs ds → ag ds env P →
    (∀ env' σ', P env' → Mt W H0 F H σ' env' → wipe σ' vs = wipe σ vs → Q σ' H) → g xs σ H Q
  ln : ∀ ds env P, ag ds env P → ds.length = n
def gA (i : Nat) : ATg := fun d env P => P (env.set i (.d d))
def gTu (ag : List Dat → List Sl → (List Sl → Prop) → Prop) : ATg := fun d env P => tQ d fun ds => ag ds env P
def gNilA : List Dat → List Sl → (List Sl → Prop) → Prop := fun ds env P => match ds with
  | [] => P env
  | _ :: _ => False
def gConsA (g : ATg) (ag : List Dat → List Sl → (List Sl → Prop) → Prop) : List Dat → List Sl → (List Sl → Prop) → Prop := fun ds env P => match ds with
  | [] => False
  | d :: ds => g d env fun env2 => ag ds env2 P
theorem wipe_set (σ : L2.St) (i : Nat) (x : Option V) : ∀ vs : List Nat, i ∈ vs → wipe (σ.set i x) vs = wipe σ vs
  | [], h => by cases h
  | v :: vs, h => by
    show (wipe (σ.set i x) vs).set v none = (wipe σ vs).set v none
    by_cases hv : i ∈ vs
    · rw [wipe_set σ i x vs hv]
    · have e : i = v := (List.mem_cons.mp h).resolve_right hv
      subst e
      have com : ∀ us : List Nat, i ∉ us → wipe (σ.set i x) us = (wipe σ us).set i x := fun us => by
        induction us with
        | nil => intro _; rfl
        | cons u us ih =>
          intro hu
          show (wipe (σ.set i x) us).set u none = ((wipe σ us).set u none).set i x
          rw [ih (fun z => hu (List.mem_cons_of_mem _ z)), List.set_comm _ _ (fun z => hu (by rw [z]; exact List.mem_cons_self))]
      rw [com vs hv, List.set_set]
theorem wipe_wipe (σ : L2.St) : ∀ vs : List Nat, wipe (wipe σ vs) vs = wipe σ vs
  | [] => rfl
  | v :: vs => by
    have e := wipe_set (wipe σ vs) v none (v :: vs) List.mem_cons_self
    show wipe ((wipe σ vs).set v none) (v :: vs) = (wipe σ vs).set v none
    rw [e]
    show (wipe (wipe σ vs) vs).set v none = _
    rw [wipe_wipe σ vs]
section
variable {W : Wd} {H0 : Hp} {vs : List Nat}
theorem g_name {i : Nat} (h : i ∈ vs := by decide) : ATgt W H0 vs (gName i) (gA i) := ⟨fun v d σ env F H Q P ok m r q k => k _ _ q (m.setD i r) (wipe_set σ i _ vs h)⟩
theorem g_tup {n : Nat} {t : TGs} {ag : List Dat → List Sl → (List Sl → Prop) → Prop} (h : ATgs W H0 vs n t ag) : ATgt W H0 vs (gTup W.K n t) (gTu ag) := ⟨fun v d σ env F H Q P ok m r q k => by
  cases r with
  | tup hA rr => exact ⟨_, _, rfl, hA.sq, rr.length.trans (h.ln _ _ _ q), h.run _ _ σ env F H Q P ok m rr q k⟩
  | _ => exact q.elim⟩
theorem g_nil : ATgs W H0 vs 0 gNil gNilA := ⟨fun xs ds σ env F H Q P ok m r q k => by
  cases r with
  | nil => exact ⟨rfl, k env σ q m rfl⟩
  | cons _ _ => exact q.elim, fun ds env P q => by
  cases ds with
  | nil => rfl
  | cons _ _ => exact q.elim⟩
theorem g_cons {n : Nat} {t : TG} {ag : ATg} {u : TGs} {au : List Dat → List Sl → (List Sl → Prop) → Prop} (h : ATgt W H0 vs t ag) (h2 : ATgs W H0 vs n u au) (tot : ∀ d env P, ag d env P → ∃ env2, P env2) : ATgs W H0 vs (n + 1) (gCons t u) (gConsA ag au) := ⟨fun xs ds σ env F H Q P ok m r q k => by
  cases r with
  | nil => exact q.elim
  | cons r rs => exact ⟨_, _, rfl, h.run _ _ σ env F H _ _ ok m r q fun env2 σ2 p2 m2 w2 => h2.run _ _ σ2 env2 F H Q P ok m2 rs p2 fun env3 σ3 p3 m3 w3 => k env3 σ3 p3 m3 (w3.trans w2)⟩, fun ds env P q => by
  cases ds with
  | nil => exact q.elim
  | cons d ds =>
    obtain ⟨env2, p⟩ := tot d env _ q
    exact congrArg (· + 1) (h2.ln ds env2 P p)⟩
theorem tot_name {i : Nat} : ∀ d env P, gA i d env P → ∃ env2, P env2 := fun _ _ _ q => ⟨_, q⟩
end
def wipeA (env : List Sl) : List Nat → List Sl
  | [] => env
  | v :: vs => (wipeA env vs).set v .u
theorem Mt.wipe {W : Wd} {H0 : Hp} {F : Addr → Prop} {H : Hp} {σ : L2.St} {env : List Sl} (m : Mt W H0 F H σ env) : ∀ vs : List Nat, Mt W H0 F H (L2.wipe σ vs) (wipeA env vs)
  | [] => m
  | v :: vs => by
    have m2 := m.wipe vs
    show Mt W H0 F H ((L2.wipe σ vs).set v none) ((wipeA env vs).set v .u)
    generalize L2.wipe σ vs = σ2 at m2
    generalize wipeA env vs = env2 at m2
    refine ⟨by rw [List.length_set, List.length_set, m2.ln], fun j s e => ?_, fun j k xs ys a e1 e2 e3 e4 => ?_⟩
    · by_cases h : j = v
      · subst h
        have hl : j < env2.length := by
          have := (List.getElem?_eq_some_iff.mp e).1
          rwa [List.length_set] at this
        rw [List.getElem?_set_self hl] at e
        cases e
        exact ⟨none, List.getElem?_set_self (by rw [← m2.ln]; exact hl), trivial⟩
      · rw [List.getElem?_set_ne (Ne.symm h)] at e ⊢
        exact m2.at_ j s e
    · have n1 : ∀ {j : Nat} {xs : List Dat}, (env2.set v .u)[j]? = some (.o xs) → j ≠ v := fun {j xs} e z => by
        subst z
        have hl : j < env2.length := by
          have := (List.getElem?_eq_some_iff.mp e).1
          rwa [List.length_set] at this
        rw [List.getElem?_set_self hl] at e
        cases e
      have a1 := n1 e1
      have a2 := n1 e2
      rw [List.getElem?_set_ne (Ne.symm a1)] at e1 e3
      rw [List.getElem?_set_ne (Ne.symm a2)] at e2 e4
      exact m2.own j k xs ys a e1 e2 e3 e4
/-- the items that are made of ds, behind those of acc -/
def lcA (el : Dat → (Option Dat → Prop) → Prop) (P : List Dat → Prop) : List Dat → List Dat → Prop
  | [], acc => P acc
  | d :: ds, acc => el d fun o => match o with
    | some y => lcA el P ds (acc ++ [y])
    | none => lcA el P ds acc
def elA (ag : ATg) (at_ : ATs) (ea : AEx) (env : List Sl) : Dat → (Option Dat → Prop) → Prop := fun d P => ag d env fun env2 => at_ env2 fun b => two b (ea env2 fun y => P (some y)) (P none)
def aLc (ai : AFr) (ag : ATg) (at_ : ATs) (ea : AEx) (vs : List Nat) : AFr := fun env P => ai env fun ds => ds.length ≤ 100000 ∧ lcA (elA ag at_ ea (wipeA env vs)) P ds []
def aYes : ATs := fun _ P => P true
theorem a_yes {W : Wd} {H0 : Hp} : ATst W H0 tYes aYes := ⟨fun _ _ F H _ _ ok _ h k => k true F H h (.refl ok)⟩
theorem a_lc {W : Wd} {H0 : Hp} {wi : TI} {g : TG} {tt : TT} {te : TE} {vs : List Nat} {ai : AFr} {ag : ATg} {at_ : ATs} {ea : AEx} (hi : AIter W H0 wi ai) (hg : ATgt W H0 vs g ag) (ht : ATst W H0 tt at_) (he : AExp W H0 te ea) :
    AFrs W H0 (tLc wi g tt te vs) (aLc ai ag at_ ea vs) := ⟨fun σ env F H Q P ok m q k => hi.run σ env F H _ _ ok m q fun ds F1 H1 J p1 x1 itk => by
  intro D hD
  obtain ⟨sz, p1⟩ := p1
  have ok1 := x1.ok
  have m1 := m.ext ok x1
  have np : ∀ p c, W.po = some (p, c) → D ≠ p ∧ D ≠ c := ok1.pne hD
  refine ⟨fun i n H' => n + i = ds.length ∧ ∃ F' acc ys, Ext W F1 H1 F' H' ∧ ¬ F' D ∧ H' D = some (.lst acc) ∧ RvAll W F' H' acc ys ∧ ys.length ≤ i ∧ lcA (elA ag at_ ea (wipeA env vs)) P (ds.drop i) ys,
    ⟨ds.length, rfl, F1, [], [], Ext.lay ok1 hD, fun f => ok1.tr D f hD, upd_same, .nil, Nat.le_refl _, p1⟩, ?_⟩
  rintro i n H2 ⟨hn, F2, acc, ys, x2, nf, hA, r2, ly, p2⟩
  have ok2 := x2.ok
  by_cases hlt : i < ds.length
  · have hd : ds[i]? = some ds[i] := List.getElem?_eq_getElem hlt
    obtain ⟨go, yl⟩ := itk.it F2 H2 ok2 (x2.sub ok1) i _ hd
    rw [List.drop_eq_getElem_cons hlt] at p2
    refine .inr ⟨go, fun H' => ∃ F' acc ys, Ext W F1 H1 F' H' ∧ ¬ F' D ∧ H' D = some (.lst acc) ∧ RvAll W F' H' acc ys ∧ ys.length ≤ i + 1 ∧ lcA (elA ag at_ ea (wipeA env vs)) P (ds.drop (i + 1)) ys,
      fun H' ⟨F', acc, ys, rest⟩ => ⟨n - 1, by omega, by omega, F', acc, ys, rest⟩, fun x H3 y => ?_⟩
    obtain ⟨F3, x3, rx⟩ := yl x H3 y
    have x13 := x2.trans ok1 x3
    refine hg.run x _ _ _ F3 H3 _ _ x3.ok ((m1.ext ok1 x13).wipe vs) rx p2 fun env4 σ4 p4 m4 w4 => ?_
    refine ⟨w4.trans (wipe_wipe σ vs), ht.run σ4 env4 F3 H3 _ _ x3.ok m4 p4 fun b F5 H5 p5 x5 => ?_⟩
    have keep : ∀ {Fa Fb : Addr → Prop} {Ha Hb : Hp}, Ext W Fa Ha Fb Hb → ¬ Fa D → Ha D = some (.lst acc) → ¬ Fb D ∧ Hb D = some (.lst acc) := fun {Fa Fb Ha Hb} x nf h => by
      refine ⟨fun f => ?_, x.kp D _ h (fun p c e => (np p c e).1)⟩
      rcases x.dn D f with z | z
      · exact nf z
      · rw [z] at h
        cases h
    obtain ⟨nf3, h3⟩ := keep x3 nf hA
    obtain ⟨nf5, h5⟩ := keep x5 nf3 h3
    have x35 := x3.trans ok2 x5
    have x15 := x2.trans ok1 x35
    cases b with
    | true =>
      rw [if_pos rfl]
      refine he.run σ4 env4 F5 H5 _ _ x5.ok (m4.ext x3.ok x5) p5 fun e F6 H6 v p6 x6 r6 => ?_
      obtain ⟨nf6, h6⟩ := keep x6 nf5 h5
      have x16 := x15.trans ok1 x6
      have r26 := r2.sub ((x35.trans ok2 x6).sub ok2)
      have sb : Sub F6 H6 F6 (upd H6 D (.lst (acc ++ [v]))) := fun a f => ⟨f, upd_ne (fun z => nf6 (by rw [← z]; exact f))⟩
      refine ⟨acc, h6, len_size (by rw [r2.length]; omega), F6, _, ys ++ [e], ⟨x16.up, x16.dn, fun a o ha npa => ?_, ⟨fun a f => ?_, fun p c ep => ?_⟩⟩, nf6, upd_same, (r26.append (.cons r6 .nil)).sub sb, by rw [List.length_append]; exact Nat.succ_le_succ ly, p6⟩
      · rw [upd_ne (ne_of_none ha hD)]
        exact x16.kp a o ha npa
      · rw [(sb a f).2]
        exact x16.ok.tr a f
      · obtain ⟨h1, h2, h3⟩ := x16.ok.po p c ep
        exact ⟨h1.mut (np p c ep).1 (np p c ep).2, h2, h3⟩
    | false =>
      rw [if_neg Bool.false_ne_true]
      exact ⟨F5, acc, ys, x15, nf5, h5, r2.sub (x35.sub ok2), by omega, p5⟩
  · have e : i = ds.length := by omega
    subst e
    rw [List.drop_length] at p2
    exact .inl ⟨itk.done F2 H2 ok2 (x2.sub ok1), k ys F2 H2 D acc p2 (x1.trans ok x2) (x1.there ok hD) nf hA r2⟩⟩
structure AEnds where
  nx : List Sl → Prop
  rt : Dat → Prop
  bk : List Sl → Prop := fun _ => False
  ct : List Sl → Prop := fun _ => False
abbrev ASt := AEnds → List Sl → Prop
/-- the states of a def's body: F0, H0 its entry; what is settled in F1, H1 stays -/
structure Bse (W : Wd) (F0 : Addr → Prop) (H0 : Hp) (F1 : Addr → Prop) (H1 : Hp) (F : Addr → Prop) (H : Hp) : Prop where
  ex : Ext W F0 H0 F H
  sb : Sub F1 H1 F H
theorem Sub.trans {F F' F2 : Addr → Prop} {H H' H2 : Hp} (a : Sub F H F' H') (b : Sub F' H' F2 H2) : Sub F H F2 H2 := fun x f => ⟨(b x (a x f).1).1, (b x (a x f).1).2.trans (a x f).2⟩
theorem Sub.refl (F : Addr → Prop) (H : Hp) : Sub F H F H := fun _ f => ⟨f, rfl⟩
structure EndsOk (W : Wd) (F0 : Addr → Prop) (H0 : Hp) (F1 : Addr → Prop) (H1 : Hp) (De : Ends) (Da : AEnds) : Prop where
  nx : ∀ σ env F H, Bse W F0 H0 F1 H1 F H → Mt W H0 F H σ env → Da.nx env → De.nx σ H
  rt : ∀ v d F H, Bse W F0 H0 F1 H1 F H → Rv W F H v d → Da.rt d → De.rt v H
  bk : ∀ σ env F H, Bse W F0 H0 F1 H1 F H → Mt W H0 F H σ env → Da.bk env → De.bk σ H
  ct : ∀ σ env F H, Bse W F0 H0 F1 H1 F H → Mt W H0 F H σ env → Da.ct env → De.ct σ H
structure AStm (W : Wd) (ts : TS) (as : ASt) : Prop where
  run : ∀ (F0 : Addr → Prop) (H0 : Hp) (F1 : Addr → Prop) (H1 : Hp) (De : Ends) (Da : AEnds) (σ : L2.St) (env : List Sl) (F : Addr → Prop) (H : Hp), Okk W F0 H0 → Bse W F0 H0 F1 H1 F H → Mt W H0 F H σ env → EndsOk W F0 H0 F1 H1 De Da → as Da env → ts De σ H
theorem Bse.step {W : Wd} {F0 F1 F F' : Addr → Prop} {H0 H1 H H' : Hp} (ok0 : Okk W F0 H0) (b : Bse W F0 H0 F1 H1 F H) (x : Ext W F H F' H') : Bse W F0 H0 F1 H1 F' H' := ⟨b.ex.trans ok0 x, b.sb.trans (x.sub b.ex.ok)⟩
theorem EndsOk.mono {W : Wd} {F0 F1 F : Addr → Prop} {H0 H1 H : Hp} {De : Ends} {Da : AEnds} (s : Sub F1 H1 F H) (k : EndsOk W F0 H0 F1 H1 De Da) : EndsOk W F0 H0 F H De Da :=
  ⟨fun σ env F H b => k.nx σ env F H ⟨b.ex, s.trans b.sb⟩, fun v d F H b => k.rt v d F H ⟨b.ex, s.trans b.sb⟩, fun σ env F H b => k.bk σ env F H ⟨b.ex, s.trans b.sb⟩, fun σ env F H b => k.ct σ env F H ⟨b.ex, s.trans b.sb⟩⟩
def sNext : ASt := fun D env => D.nx env
def sSeq (a b : ASt) : ASt := fun D env => a { D with nx := b D } env
def sCut (a b : ASt) : ASt := fun D env => ∃ Mid : List Sl → Prop, a { D with nx := Mid } env ∧ ∀ env', Mid env' → b D env'
def sIf (c : ATs) (a b : ASt) : ASt := fun D env => c env fun t => two t (a D env) (b D env)
def sAsg (ea : AEx) (g : ATg) : ASt := fun D env => ea env fun d => g d env D.nx
def sSetO (i : Nat) (af : AFr) : ASt := fun D env => af env fun ds => D.nx (env.set i (.o ds))
def sRet (ea : AEx) : ASt := fun D env => ea env D.rt
def sRetN : ASt := fun D _ => D.rt .non
def sDrop (ea : AEx) : ASt := fun D env => ea env fun _ => D.nx env
def sPar (i j : Nat) (aa : AFr) : ASt := fun D env => aa env fun ds => match ds with
  | [x, y] => D.nx ((env.set i (.d x)).set j (.d y))
  | _ => False
def oQ2 : Sl → (List Dat → Prop) → Prop
  | .o xs, P => P xs
  | _, _ => False
/-- x.append(e), x a list of the def's own -/
def sApp (i : Nat) (ea : AEx) : ASt := fun D env => oQ2 (dAt env i) fun xs => xs.length < 100000 ∧ ea env fun d => D.nx (env.set i (.o (xs ++ [d])))
/-- no statement: from here on the list in slot i is only read -/
def sFz (i : Nat) (a : ASt) : ASt := fun D env => oQ2 (dAt env i) fun xs => a D (env.set i (.d (.lst xs)))
def sAug (i : Nat) (ea : AEx) (f : Dat → Dat → (Dat → Prop) → Prop) : ASt := fun D env => dQ (dAt env i) fun x => ea env fun y => f x y fun z => D.nx (env.set i (.d z))
def forA (g : ATg) (b : ASt) (D : AEnds) : List Dat → List Sl → Prop
  | [], env => D.nx env
  | d :: ds, env => g d env fun env2 => b { D with nx := forA g b D ds, ct := forA g b D ds, bk := D.nx } env2
def sFor (ai : AFr) (g : ATg) (b : ASt) : ASt := fun D env => ai env fun ds => forA g b D ds env
section
variable {W : Wd} {ts tu : TS} {as au : ASt}
theorem s_next : AStm W tNext sNext := ⟨fun F0 H0 F1 H1 De Da σ env F H ok b m k h => k.nx σ env F H b m h⟩
theorem s_seq (h1 : AStm W ts as) (h2 : AStm W tu au) : AStm W (tSeq ts tu) (sSeq as au) := ⟨fun F0 H0 F1 H1 De Da σ env F H ok b m k h =>
  h1.run F0 H0 F1 H1 { De with nx := tu De } { Da with nx := au Da } σ env F H ok b m ⟨fun σ env F H b m h => h2.run F0 H0 F1 H1 De Da σ env F H ok b m k h, k.rt, k.bk, k.ct⟩ h⟩
theorem s_cut (h1 : AStm W ts as) (h2 : AStm W tu au) : AStm W (C8.tCut ts tu) (sCut as au) := ⟨fun F0 H0 F1 H1 De Da σ env F H ok b m k ⟨Mid, h, q⟩ =>
  ⟨fun σ' H' => ∃ env' F', Bse W F0 H0 F1 H1 F' H' ∧ Mt W H0 F' H' σ' env' ∧ Mid env', h1.run F0 H0 F1 H1 _ { Da with nx := Mid } σ env F H ok b m ⟨fun σ env F H b m h => ⟨env, F, b, m, h⟩, k.rt, k.bk, k.ct⟩ h,
    fun σ' H' ⟨env', F', b', m', hm⟩ => h2.run F0 H0 F1 H1 De Da σ' env' F' H' ok b' m' k (q env' hm)⟩⟩
theorem s_if {t : TT} {c : ATs} (ht : ∀ H0, ATst W H0 t c) (h1 : AStm W ts as) (h2 : AStm W tu au) : AStm W (tIfS t ts tu) (sIf c as au) := ⟨fun F0 H0 F1 H1 De Da σ env F H ok b m k h =>
  (ht H0).run σ env F H _ _ b.ex.ok m h fun t F' H' p x => by
    have b' := b.step ok x
    have m' := m.ext b.ex.ok x
    cases t with
    | true =>
      rw [if_pos rfl]
      exact h1.run F0 H0 F1 H1 De Da σ env F' H' ok b' m' k p
    | false =>
      rw [if_neg Bool.false_ne_true]
      exact h2.run F0 H0 F1 H1 De Da σ env F' H' ok b' m' k p⟩
theorem s_asg {te : TE} {ea : AEx} {g : TG} {ag : ATg} {vs : List Nat} (he : ∀ H0, AExp W H0 te ea) (hg : ∀ H0, ATgt W H0 vs g ag) : AStm W (tAsg te g) (sAsg ea ag) := ⟨fun F0 H0 F1 H1 De Da σ env F H ok b m k h =>
  (he H0).run σ env F H _ _ b.ex.ok m h fun d F' H' v p x r => (hg H0).run v d σ env F' H' _ _ x.ok (m.ext b.ex.ok x) r p fun env' σ' p' m' _ => k.nx σ' env' F' H' (b.step ok x) m' p'⟩
theorem s_set {te : TE} {ea : AEx} {i : Nat} (he : ∀ H0, AExp W H0 te ea) : AStm W (tAsg te (gName i)) (sAsg ea (gA i)) := s_asg (vs := [i]) he fun _ => g_name List.mem_cons_self
theorem s_ret {te : TE} {ea : AEx} (he : ∀ H0, AExp W H0 te ea) : AStm W (tRet te) (sRet ea) := ⟨fun F0 H0 F1 H1 De Da σ env F H ok b m k h =>
  (he H0).run σ env F H _ _ b.ex.ok m h fun d F' H' v p x r => k.rt v d F' H' (b.step ok x) r p⟩
/-- a new list for a slot -/
theorem Mt.setO {H0 : Hp} {F : Addr → Prop} {H : Hp} {σ : L2.St} {env : List Sl} (m : Mt W H0 F H σ env) (i : Nat) {a : Addr} {vs : List V} {ds : List Dat} (nf : ¬ F a) (n0 : H0 a = none) (hA : H a = some (.lst vs)) (r : RvAll W F H vs ds) (np : ∀ p c, W.po = some (p, c) → a ≠ p ∧ a ≠ c)
    (ne : ∀ j xs, j ≠ i → env[j]? = some (.o xs) → σ[j]? ≠ some (some (.ref a))) : Mt W H0 F H (σ.set i (some (.ref a))) (env.set i (.o ds)) := by
  refine ⟨by rw [List.length_set, List.length_set, m.ln], fun j s e => ?_, fun j k xs ys b e1 e2 e3 e4 => ?_⟩
  · by_cases h : j = i
    · subst h
      have hl : j < env.length := by
        have := (List.getElem?_eq_some_iff.mp e).1
        rwa [List.length_set] at this
      rw [List.getElem?_set_self hl] at e
      cases e
      exact ⟨some (.ref a), List.getElem?_set_self (by rw [← m.ln]; exact hl), a, vs, rfl, nf, n0, hA, r, np⟩
    · rw [List.getElem?_set_ne (Ne.symm h)] at e ⊢
      exact m.at_ j s e
  · have at_i : ∀ {j : Nat} {b : Addr}, j = i → (σ.set i (some (V.ref a)))[j]? = some (some (.ref b)) → b = a := fun {j b} z e => by
      subst z
      have hl : j < σ.length := by
        have := (List.getElem?_eq_some_iff.mp e).1
        rwa [List.length_set] at this
      rw [List.getElem?_set_self hl] at e
      cases e
      rfl
    by_cases h1 : j = i
    · by_cases h2 : k = i
      · rw [h1, h2]
      · have eb := at_i h1 e3
        subst eb
        rw [List.getElem?_set_ne (Ne.symm h2)] at e2 e4
        exact absurd e4 (ne k ys h2 e2)
    · by_cases h2 : k = i
      · have eb := at_i h2 e4
        subst eb
        rw [List.getElem?_set_ne (Ne.symm h1)] at e1 e3
        exact absurd e3 (ne j xs h1 e1)
      · rw [List.getElem?_set_ne (Ne.symm h1)] at e1 e3
        rw [List.getElem?_set_ne (Ne.symm h2)] at e2 e4
        exact m.own j k xs ys b e1 e2 e3 e4
theorem s_setO {te : TE} {af : AFr} {i : Nat} (he : ∀ H0, AFrs W H0 te af) : AStm W (tAsg te (gName i)) (sSetO i af) := ⟨fun F0 H0 F1 H1 De Da σ env F H ok b m k h =>
  (he H0).run σ env F H _ _ b.ex.ok m h fun ds F' H' a vs p x n nf hA r => by
    have m' := m.ext b.ex.ok x
    refine k.nx _ _ F' H' (b.step ok x) (m'.setO i nf (b.ex.there ok n) hA r (b.ex.ok.pne n) fun j xs hj e z => ?_) p
    obtain ⟨ov, e1, b', ws, e2, _, _, hb, _⟩ := m.at_ j _ e
    rw [z] at e1
    cases e1
    cases e2
    rw [n] at hb
    cases hb⟩
/-- a list of the def's own is changed -/
theorem s_own {F0 F1 F : Addr → Prop} {H0 H1 H : Hp} {σ : L2.St} {env : List Sl} (ok : Okk W F0 H0) (b : Bse W F0 H0 F1 H1 F H) (m : Mt W H0 F H σ env) {i : Nat} {xs ys : List Dat} {a : Addr} {ws : List V} (e : env[i]? = some (.o xs)) (es : σ[i]? = some (some (.ref a)))
    (nf : ¬ F a) (n0 : H0 a = none) (np : ∀ p c, W.po = some (p, c) → a ≠ p ∧ a ≠ c) (r : RvAll W F H ws ys) : Bse W F0 H0 F1 H1 F (upd H a (.lst ws)) ∧ Mt W H0 F (upd H a (.lst ws)) σ (env.set i (.o ys)) := by
  have sb : Sub F H F (upd H a (.lst ws)) := fun c f => ⟨f, upd_ne (fun z => nf (by rw [← z]; exact f))⟩
  have okk : Okk W F (upd H a (.lst ws)) := ⟨fun c f => by
    rw [(sb c f).2]
    exact b.ex.ok.tr c f, fun p c ep => by
    obtain ⟨h1, h2, h3⟩ := b.ex.ok.po p c ep
    exact ⟨h1.mut (np p c ep).1 (np p c ep).2, h2, h3⟩⟩
  refine ⟨⟨⟨b.ex.up, b.ex.dn, fun c o hc npc => ?_, okk⟩, b.sb.trans sb⟩, ?_⟩
  · rw [upd_ne (ne_of_none hc n0)]
    exact b.ex.kp c o hc npc
  · have hl : i < env.length := (List.getElem?_eq_some_iff.mp e).1
    refine ⟨by rw [List.length_set, m.ln], fun j s ej => ?_, fun j k us vs c e1 e2 e3 e4 => ?_⟩
    · by_cases h : j = i
      · subst h
        rw [List.getElem?_set_self hl] at ej
        cases ej
        exact ⟨_, es, a, ws, rfl, nf, n0, upd_same, r.sub sb, np⟩
      · rw [List.getElem?_set_ne (Ne.symm h)] at ej
        obtain ⟨ov, eo, so⟩ := m.at_ j s ej
        refine ⟨ov, eo, ?_⟩
        cases s with
        | u => trivial
        | d x =>
          obtain ⟨v, ev, rv⟩ := so
          exact ⟨v, ev, rv.sub sb⟩
        | o us =>
          obtain ⟨c, vs, ec, nfc, n0c, hc, rc, npc⟩ := so
          subst ec
          have hca : c ≠ a := fun z => h (m.own j i us xs c ej e eo (by rw [z]; exact es))
          exact ⟨c, vs, rfl, nfc, n0c, by rw [upd_ne hca]; exact hc, rc.sub sb, npc⟩
    · have old : ∀ {j : Nat} {us : List Dat}, (env.set i (.o ys))[j]? = some (.o us) → ∃ us', env[j]? = some (.o us') := fun {j us} ej => by
        by_cases h : j = i
        · subst h
          exact ⟨_, e⟩
        · rw [List.getElem?_set_ne (Ne.symm h)] at ej
          exact ⟨_, ej⟩
      obtain ⟨_, e1⟩ := old e1
      obtain ⟨_, e2⟩ := old e2
      exact m.own j k _ _ c e1 e2 e3 e4
theorem own_at {F : Addr → Prop} {H0 H : Hp} {σ : L2.St} {env : List Sl} (m : Mt W H0 F H σ env) {i : Nat} {P : List Dat → Prop} (h : oQ2 (dAt env i) P) : ∃ xs a vs, P xs ∧ env[i]? = some (.o xs) ∧ σ[i]? = some (some (.ref a)) ∧ ¬ F a ∧ H0 a = none ∧ H a = some (.lst vs) ∧ RvAll W F H vs xs ∧ ∀ p c, W.po = some (p, c) → a ≠ p ∧ a ≠ c := by
  cases e : dAt env i with
  | o xs =>
    rw [e] at h
    have e1 := dAt_get e (fun z => by cases z)
    obtain ⟨ov, e2, a, vs, rfl, nf, n0, hA, r, np⟩ := m.at_ i _ e1
    exact ⟨xs, a, vs, h, e1, e2, nf, n0, hA, r, np⟩
  | u =>
    rw [e] at h
    exact h.elim
  | d x =>
    rw [e] at h
    exact h.elim
theorem own_ext {F F' : Addr → Prop} {H H' : Hp} {a : Addr} {vs : List V} {xs : List Dat} (ok : Okk W F H) (x : Ext W F H F' H') (nf : ¬ F a) (hA : H a = some (.lst vs)) (r : RvAll W F H vs xs) (np : ∀ p c, W.po = some (p, c) → a ≠ p ∧ a ≠ c) : ¬ F' a ∧ H' a = some (.lst vs) ∧ RvAll W F' H' vs xs := by
  refine ⟨fun f => ?_, x.kp a _ hA (fun p c e => (np p c e).1), r.sub (x.sub ok)⟩
  rcases x.dn a f with z | z
  · exact nf z
  · rw [z] at hA
    cases hA
theorem s_app {te : TE} {ea : AEx} {i : Nat} (he : ∀ H0, AExp W H0 te ea) : AStm W (tDrop (tBM W.K "list" rAppend (tVar i) (tCons te tNil))) (sApp i ea) := ⟨fun F0 H0 F1 H1 De Da σ env F H ok b m k h => by
  obtain ⟨xs, a, vs, ⟨hl, h⟩, e, es, nf, n0, hA, r, np⟩ := own_at m h
  refine ⟨_, es, .inl ⟨rfl, vs, SqL.of hA⟩, ?_⟩
  refine (he H0).run σ env F H _ _ b.ex.ok m h fun d F' H' v p x rv => ?_
  obtain ⟨nf', hA', r'⟩ := own_ext b.ex.ok x nf hA r np
  obtain ⟨b2, m2⟩ := s_own ok (b.step ok x) (m.ext b.ex.ok x) e es nf' n0 np (r'.append (.cons rv .nil))
  exact ⟨a, vs, v, rfl, rfl, hA', len_size (by rw [r.length]; omega), k.nx _ _ _ _ b2 m2 p⟩⟩
/-- the list in slot i is settled -/
theorem s_fz {i : Nat} (h1 : AStm W ts as) : AStm W ts (sFz i as) := ⟨fun F0 H0 F1 H1 De Da σ env F H ok b m k h => by
  obtain ⟨xs, a, vs, h, e, es, nf, n0, hA, r, np⟩ := own_at m h
  have nH0 : H0 a = none := n0
  have ext2 : Ext W F0 H0 (fun c => F c ∨ c = a) H := Ext.fz ok b.ex n0 hA
  have sb : Sub F H (fun c => F c ∨ c = a) H := sub_fz a
  refine h1.run F0 H0 F1 H1 De Da σ (env.set i (.d (.lst xs))) _ H ok ⟨ext2, b.sb.trans sb⟩ ?_ k h
  have hl : i < env.length := (List.getElem?_eq_some_iff.mp e).1
  refine ⟨by rw [List.length_set, m.ln], fun j s ej => ?_, fun j l us ws c e1 e2 e3 e4 => ?_⟩
  · by_cases h : j = i
    · subst h
      rw [List.getElem?_set_self hl] at ej
      cases ej
      exact ⟨_, es, _, rfl, .lst (.inr rfl) hA (r.sub sb)⟩
    · rw [List.getElem?_set_ne (Ne.symm h)] at ej
      obtain ⟨ov, eo, so⟩ := m.at_ j s ej
      refine ⟨ov, eo, ?_⟩
      cases s with
      | u => trivial
      | d x =>
        obtain ⟨v, ev, rv⟩ := so
        exact ⟨v, ev, rv.sub sb⟩
      | o us =>
        obtain ⟨c, vs, ec, nfc, n0c, hc, rc, npc⟩ := so
        subst ec
        exact ⟨c, vs, rfl, fun f => by
          rcases f with f | f
          · exact nfc f
          · exact h (m.own j i us xs c ej e eo (by rw [f]; exact es)), n0c, hc, rc.sub sb, npc⟩
  · have ne : ∀ {j : Nat} {us : List Dat}, (env.set i (.d (.lst xs)))[j]? = some (.o us) → j ≠ i := fun {j us} ej z => by
      subst z
      rw [List.getElem?_set_self hl] at ej
      cases ej
    have a1 := ne e1
    have a2 := ne e2
    rw [List.getElem?_set_ne (Ne.symm a1)] at e1
    rw [List.getElem?_set_ne (Ne.symm a2)] at e2
    exact m.own j l us ws c e1 e2 e3 e4⟩
theorem s_for {wi : TI} {ai : AFr} {g : TG} {ag : ATg} {vs : List Nat} (hi : ∀ H0, AIter W H0 wi ai) (hg : ∀ H0, ATgt W H0 vs g ag) (hb : AStm W ts as) : AStm W (tFor wi g ts) (sFor ai ag as) := ⟨fun F0 H0 F1 H1 De Da σ env F H ok b m k h =>
  (hi H0).run σ env F H _ _ b.ex.ok m h fun ds Fa Ha J p1 x1 itk => by
  have b1 := b.step ok x1
  have m1 := m.ext b.ex.ok x1
  refine ⟨fun i n σ' H' => n + i = ds.length ∧ ∃ env' F', Bse W F0 H0 F1 H1 F' H' ∧ Sub Fa Ha F' H' ∧ Mt W H0 F' H' σ' env' ∧ forA ag as Da (ds.drop i) env', ⟨ds.length, rfl, env, Fa, b1, Sub.refl Fa Ha, m1, p1⟩, ?_⟩
  rintro i n σ2 H2 ⟨hn, env2, F2, b2, s2, m2, p2⟩
  by_cases hlt : i < ds.length
  · have hd : ds[i]? = some ds[i] := List.getElem?_eq_getElem hlt
    obtain ⟨go, yl⟩ := itk.it F2 H2 b2.ex.ok s2 i _ hd
    rw [List.drop_eq_getElem_cons hlt] at p2
    refine .inr ⟨go, fun σ' H' => ∃ env' F', Bse W F0 H0 F1 H1 F' H' ∧ Sub Fa Ha F' H' ∧ Mt W H0 F' H' σ' env' ∧ forA ag as Da (ds.drop (i + 1)) env',
      fun σ' H' ⟨env', F', rest⟩ => ⟨n - 1, by omega, by omega, env', F', rest⟩, fun x H3 y => ?_⟩
    obtain ⟨F3, x3, rx⟩ := yl x H3 y
    have b3 := b2.step ok x3
    have m3 := m2.ext b2.ex.ok x3
    have s3 := s2.trans (x3.sub b2.ex.ok)
    refine (hg H0).run x _ σ2 env2 F3 H3 _ _ x3.ok m3 rx p2 fun env4 σ4 p4 m4 _ => ?_
    exact hb.run F0 H0 F3 H3 _ { Da with nx := forA ag as Da (ds.drop (i + 1)), ct := forA ag as Da (ds.drop (i + 1)), bk := Da.nx } σ4 env4 F3 H3 ok ⟨b3.ex, Sub.refl _ _⟩ m4
      ⟨fun σ env F H b m h => ⟨env, F, ⟨b.ex, b3.sb.trans b.sb⟩, s3.trans b.sb, m, h⟩, fun v d F H b => k.rt v d F H ⟨b.ex, b3.sb.trans b.sb⟩, fun σ env F H b => k.nx σ env F H ⟨b.ex, b3.sb.trans b.sb⟩,
        fun σ env F H b m h => ⟨env, F, ⟨b.ex, b3.sb.trans b.sb⟩, s3.trans b.sb, m, h⟩⟩ p4
  · have e : i = ds.length := by omega
    subst e
    rw [List.drop_length] at p2
    exact .inl ⟨itk.done F2 H2 b2.ex.ok s2, k.nx σ2 env2 F2 H2 b2 m2 p2⟩⟩
end
theorem mt_start {W : Wd} {F : Addr → Prop} {H : Hp} : ∀ {N : List Str} {vs : List V} {ds : List Dat}, RvAll W F H vs ds → ds.length ≤ N.length → Mt W H F H (L2.start N vs) (ds.map Sl.d ++ List.replicate (N.length - ds.length) .u) := fun {N vs ds} r hl => by
  have lv := r.length
  unfold L2.start
  rw [lv]
  refine ⟨by simp [lv], fun j s e => ?_, fun j k us ws a e1 => ?_⟩
  · by_cases h : j < ds.length
    · rw [List.getElem?_append_left (by rw [List.length_map]; exact h), List.getElem?_map] at e
      rw [List.getElem?_append_left (by rw [List.length_map]; omega), List.getElem?_map]
      cases q : ds[j]? with
      | none =>
        rw [q] at e
        cases e
      | some d =>
        rw [q] at e
        cases e
        obtain ⟨v, e1, rv⟩ := r.get q
        rw [e1]
        exact ⟨_, rfl, v, rfl, rv⟩
    · rw [List.getElem?_append_right (by rw [List.length_map]; omega), List.length_map] at e
      rw [List.getElem?_append_right (by rw [List.length_map]; omega), List.length_map, lv]
      obtain ⟨hb, e⟩ := List.getElem?_eq_some_iff.mp e
      rw [List.getElem_replicate] at e
      rw [List.length_replicate] at hb
      subst e
      exact ⟨none, by rw [List.getElem?_eq_getElem (by rw [List.length_replicate]; exact hb), List.getElem_replicate], trivial⟩
  · exfalso
    have hm := List.mem_of_getElem? e1
    rcases List.mem_append.mp hm with h | h
    · obtain ⟨_, _, z⟩ := List.mem_map.mp h
      cases z
    · have := (List.mem_replicate.mp h).2
      cases this
theorem sp_len {K : PySem.W.Frag} {ca : Nat → Addr} {asp : ASp} {n : Nat} (hn : ∀ ds P, asp ds P → ds.length = n) {vs : List V} {H : Hp} {Q : VK} {E : XK} (h : toSp K ca asp vs H Q E) : vs.length = n := by
  obtain ⟨po, F, ds, P, ok, r, a, k⟩ := h
  rw [r.length]
  exact hn ds P a
theorem fn_run {K : PySem.W.Frag} {ca : Nat → Addr} {asp : ASp} {N : List Str} {vs : List V} {H : Hp} {Q : VK} {E : XK} {ts : TS} {as : ASt} (h : toSp K ca asp vs H Q E) (hs : ∀ po, AStm ⟨K, ca, po⟩ ts as) (hl : ∀ ds P, asp ds P → ds.length ≤ N.length)
    (hb : ∀ ds P, asp ds P → as { nx := fun _ => P .non, rt := P } (ds.map Sl.d ++ List.replicate (N.length - ds.length) .u)) : ts { nx := fun _ H' => Q .non H', rt := Q } (L2.start N vs) H := by
  obtain ⟨po, F, ds, P, ok, r, a, k⟩ := h
  exact (hs po).run F H F H _ { nx := fun _ => P .non, rt := P } _ _ F H ok ⟨.refl ok, Sub.refl F H⟩ (mt_start r (hl ds P a))
    ⟨fun σ env F' H' b m p => k .non F' H' .non p b.ex .non, fun v d F' H' b r p => k d F' H' v p b.ex r, fun _ _ _ _ _ _ p => p.elim, fun _ _ _ _ _ _ p => p.elim⟩ (hb ds P a)
/-- a call with one argument, as f on data -/
def UOk (W : Wd) (S : Rel) (r : List V → Hp → VK → Prop) (f : Dat → (Dat → Prop) → Prop) : Prop :=
  ∀ (F : Addr → Prop) (H : Hp) (x : V) (d : Dat) (Q : VK) (P : Dat → Prop), Okk W F H → S W F H x d → f d P → (∀ z F' H' v, P z → Ext W F H F' H' → Rv W F' H' v z → Q v H') → r [x] H Q
/-- .. that makes a list -/
def UFr (W : Wd) (S : Rel) (r : List V → Hp → VK → Prop) (f : Dat → (List Dat → Prop) → Prop) : Prop :=
  ∀ (F : Addr → Prop) (H : Hp) (x : V) (d : Dat) (Q : VK) (P : List Dat → Prop), Okk W F H → S W F H x d → f d P →
    (∀ ds F' H' a vs, P ds → Ext W F H F' H' → H a = none → ¬ F' a → H' a = some (.lst vs) → RvAll W F' H' vs ds → Q (.ref a) H') → r [x] H Q
def a1F (f : Dat → (List Dat → Prop) → Prop) (ea : AEx) : AFr := fun env P => ea env fun x => f x P
/-- the items of a list or a tuple -/
def sQ : Dat → (List Dat → Prop) → Prop
  | .lst xs, P => P xs
  | .tup xs, P => P xs
  | _, _ => False
theorem Pk.seq {W : Wd} {F : Addr → Prop} {H : Hp} {v : V} {d : Dat} {P : List Dat → Prop} (k : Okk W F H) (r : Pk W F H v d) (q : sQ d P) : ∃ a vs xs, v = .ref a ∧ (SqL W.K H a vs ∨ SqT W.K H a vs) ∧ RvAll W F H vs xs ∧ P xs ∧ (d = .lst xs ∧ SqL W.K H a vs ∨ d = .tup xs ∧ SqT W.K H a vs) := by
  cases d with
  | lst xs =>
    obtain ⟨a, vs, rfl, h, _, rr⟩ := r.lst k
    exact ⟨a, vs, xs, rfl, .inl (SqL.of h), rr, q, .inl ⟨rfl, SqL.of h⟩⟩
  | tup xs =>
    cases r with
    | rv r =>
      cases r with
      | tup h rr => exact ⟨_, _, xs, rfl, .inr h.sq, rr, q, .inr ⟨rfl, h.sq⟩⟩
  | _ => exact q.elim
section
variable {W : Wd} {H0 : Hp} {te ta tb : TE} {ae ea eb : AEx} {S : Rel}
theorem a_b1 {r : List V → Hp → VK → Prop} {f : Dat → (Dat → Prop) → Prop} (hr : UOk W S r f) (ha : AEg S W H0 te ea) : AExp W H0 (tCB r (tCons te tNil)) (a1 f ea) :=
  ⟨fun σ env F H Q P ok m q k => ha.run σ env F H _ _ ok m q fun d F1 H1 v p1 x1 r1 => hr F1 H1 v d Q P x1.ok r1 p1 fun z F2 H2 w p2 x2 r2 => k z F2 H2 w p2 (x1.trans ok x2) r2⟩
theorem a_b1F {r : List V → Hp → VK → Prop} {f : Dat → (List Dat → Prop) → Prop} (hr : UFr W S r f) (ha : AEg S W H0 te ea) : AFrs W H0 (tCB r (tCons te tNil)) (a1F f ea) :=
  ⟨fun σ env F H Q P ok m q k => ha.run σ env F H _ _ ok m q fun d F1 H1 v p1 x1 r1 => hr F1 H1 v d Q P x1.ok r1 p1 fun ds F2 H2 a vs p2 x2 n nf h r => k ds F2 H2 a vs p2 (x1.trans ok x2) (x1.there ok n) nf h r⟩
def kLen : Dat → (Dat → Prop) → Prop := fun d P => sQ d fun xs => P (.int (xs.length : Nat))
theorem u_len : UOk W Pk (rLen W.K) kLen := fun F H x d Q P ok r q k => by
  obtain ⟨a, vs, xs, rfl, h, rr, p, _⟩ := r.seq ok q
  exact ⟨a, vs, rfl, h, by rw [rr.length]; exact k _ F H _ p (.refl ok) (.int _)⟩
theorem u_listOf : UFr W Pk (rListOf W.K) sQ := fun F H x d Q P ok r q k => by
  obtain ⟨a, vs, xs, rfl, h, rr, p, _⟩ := r.seq ok q
  refine ⟨a, vs, rfl, h, fun l n => ?_⟩
  have x2 : Ext W F H F (upd H l (.lst vs)) := Ext.lay ok n
  exact k xs F _ l vs p x2 n (fun f => ok.tr l f n) upd_same (rr.sub (x2.sub ok))
def kTupOf : Dat → (Dat → Prop) → Prop := fun d P => sQ d fun xs => P (.tup xs)
theorem u_tupOf : UOk W Pk (rTupF W.K) kTupOf := fun F H x d Q P ok r q k => by
  cases d with
  | lst xs =>
    obtain ⟨a, vs, rfl, h, _, rr⟩ := r.lst ok
    refine ⟨a, vs, rfl, .inl ⟨SqL.of h, fun l o n tp => ?_⟩⟩
    have x2 : Ext W F H (fun b => F b ∨ b = l) (upd H l o) := Ext.new ok n
    exact k (.tup xs) _ _ _ q x2 (.tup ⟨.inr rfl, o, upd_same, tp⟩ (rr.sub (x2.sub ok)))
  | tup xs =>
    cases r with
    | rv r =>
      cases r with
      | tup h rr => exact ⟨_, _, rfl, .inr ⟨h.sq, k (.tup xs) F H _ q (.refl ok) (.tup h rr)⟩⟩
  | _ => exact q.elim
def kAll : Dat → (Dat → Prop) → Prop
  | .lst xs, P => ∃ bs : List Bool, xs = bs.map Dat.bl ∧ P (.bl (bs.all id))
  | _, _ => False
def kInt : Dat → (Dat → Prop) → Prop
  | .int i, P => P (.int i)
  | .bl b, P => P (.int (if b then 1 else 0))
  | _, _ => False
theorem u_int : UOk W Rv (fun xs H Q => (∃ i, xs = [.int i] ∧ Q (.int i) H) ∨ ∃ k, xs = [.bl k] ∧ Q (.int (if k = true then 1 else 0)) H) kInt := fun F H x d Q P ok r q k => by
  cases r with
  | int i => exact .inl ⟨i, rfl, k _ F H _ q (.refl ok) (.int _)⟩
  | bl b => exact .inr ⟨b, rfl, k _ F H _ q (.refl ok) (.int _)⟩
  | _ => exact q.elim
def kStr : Dat → (Dat → Prop) → Prop
  | .int i, P => i.natAbs < 1000000 ∧ P (.str (toString i))
  | _, _ => False
def kMax2 : Dat → Dat → (Dat → Prop) → Prop
  | .int i, .int j, P => P (.int (if j > i then j else i))
  | _, _, _ => False
def kCatS : Dat → Dat → (Dat → Prop) → Prop
  | .str i, .str j, P => i.length + j.length ≤ 100000 ∧ P (.str (i ++ j))
  | _, _, _ => False
def kCatT : Dat → Dat → (Dat → Prop) → Prop
  | .tup xs, .tup ys, P => xs.length + ys.length ≤ 100000 ∧ P (.tup (xs ++ ys))
  | _, _, _ => False
theorem rok_catT : ROk W Rv Rv Rv (rCatF W.K) kCatT := fun F H x y d e Q P ok r1 r2 q k => by
  cases r1 with
  | @tup a1 v1 d1 h1 s1 =>
    cases r2 with
    | @tup a2 v2 d2 h2 s2 =>
      obtain ⟨sz, q⟩ := q
      refine ⟨_, _, _, _, rfl, rfl, h1.sq, h2.sq, Nat.le_of_lt (len_size (by rw [s1.length, s2.length]; exact sz)), fun e => ?_, fun _ e => ?_, fun _ _ a o n tp => ?_⟩
      · subst e
        cases s1
        exact k _ F H _ q (.refl ok) (.tup h2 s2)
      · subst e
        cases s2
        rw [List.append_nil] at q
        exact k _ F H _ q (.refl ok) (.tup h1 s1)
      · have x2 : Ext W F H (fun b => F b ∨ b = a) (upd H a o) := Ext.new ok n
        exact k _ _ _ _ q x2 (.tup ⟨.inr rfl, o, upd_same, tp⟩ ((s1.append s2).sub (x2.sub ok)))
    | _ => exact q.elim
  | _ => exact q.elim
/-- an operation that makes a list -/
def RFr (W : Wd) (S1 S2 : Rel) (r : L2.R2) (f : Dat → Dat → (List Dat → Prop) → Prop) : Prop :=
  ∀ (F : Addr → Prop) (H : Hp) (x y : V) (d e : Dat) (Q : VK) (P : List Dat → Prop), Okk W F H → S1 W F H x d → S2 W F H y e → f d e P →
    (∀ ds F' H' a vs, P ds → Ext W F H F' H' → H a = none → ¬ F' a → H' a = some (.lst vs) → RvAll W F' H' vs ds → Q (.ref a) H') → r x y H Q
def a2F (f : Dat → Dat → (List Dat → Prop) → Prop) (ea eb : AEx) : AFr := fun env P => ea env fun x => eb env fun y => f x y P
theorem a_opF {S1 S2 : Rel} {r : L2.R2} {f : Dat → Dat → (List Dat → Prop) → Prop} (pr : Pst S1) (hr : RFr W S1 S2 r f) (ha : AEg S1 W H0 ta ea) (hb : AEg S2 W H0 tb eb) : AFrs W H0 (tOp r ta tb) (a2F f ea eb) :=
  ⟨fun σ env F H Q P ok m q k => ha.run σ env F H _ _ ok m q fun d F1 H1 v p1 x1 r1 => hb.run σ env F1 H1 _ _ x1.ok (m.ext ok x1) p1 fun e F2 H2 u p2 x2 r2 =>
    hr F2 H2 v u d e Q P x2.ok (pr.run x1.ok x2 r1) r2 p2 fun ds F3 H3 a vs p3 x3 n nf h r => k ds F3 H3 a vs p3 ((x1.trans ok x2).trans ok x3) ((x1.trans ok x2).there ok n) nf h r⟩
def kCatL : Dat → Dat → (List Dat → Prop) → Prop
  | .lst xs, .lst ys, P => xs.length + ys.length ≤ 100000 ∧ P (xs ++ ys)
  | _, _, _ => False
theorem rok_catL : RFr W Pk Pk rCat kCatL := fun F H x y d e Q P ok r1 r2 q k => by
  cases d with
  | lst xs =>
    cases e with
    | lst ys =>
      obtain ⟨a, vs, rfl, h1, _, s1⟩ := r1.lst ok
      obtain ⟨b, ws, rfl, h2, _, s2⟩ := r2.lst ok
      refine ⟨a, b, vs, ws, rfl, rfl, h1, h2, Nat.le_of_lt (len_size (by rw [s1.length, s2.length]; exact q.1)), fun l n => ?_⟩
      have x2 : Ext W F H F (upd H l (.lst (vs ++ ws))) := Ext.lay ok n
      exact k _ F _ l _ q.2 x2 n (fun f => ok.tr l f n) upd_same ((s1.append s2).sub (x2.sub ok))
    | _ => exact q.elim
  | _ => exact q.elim
abbrev AOp := List Sl → (Option Int → Prop) → Prop
structure AOpt (W : Wd) (H0 : Hp) (t : TO) (ao : AOp) : Prop where
  run : ∀ (σ : L2.St) (env : List Sl) (F : Addr → Prop) (H : Hp) (Q : Option Int → Hp → Prop) (P : Option Int → Prop), Okk W F H → Mt W H0 F H σ env → ao env P → (∀ o F' H', P o → Ext W F H F' H' → Q o H') → t σ H Q
def aoN : AOp := fun _ P => P none
def aoS (ea : AEx) : AOp := fun env P => ea env fun x => match x with
  | .int i => P (some i)
  | _ => False
theorem ao_none : AOpt W H0 tNoPart aoN := ⟨fun σ env F H Q P ok m q k => k none F H q (.refl ok)⟩
theorem ao_some (h : AExp W H0 te ea) : AOpt W H0 (tPart te) (aoS ea) := ⟨fun σ env F H Q P ok m q k => h.run σ env F H _ _ ok m q fun d F1 H1 v p1 x1 r1 => by
  cases r1 with
  | int i => exact ⟨i, rfl, k _ F1 H1 p1 x1⟩
  | _ => exact p1.elim⟩
def cutD (xs : List Dat) (lo hi : Option Int) : List Dat := (xs.drop (HT.sIx xs.length 0 lo)).take (HT.sIx xs.length xs.length hi - HT.sIx xs.length 0 lo)
theorem RvAll.cut {F : Addr → Prop} {H : Hp} {vs : List V} {xs : List Dat} (r : RvAll W F H vs xs) (lo hi : Option Int) : RvAll W F H (cutV vs lo hi) (cutD xs lo hi) := by
  unfold cutV cutD
  rw [r.length]
  exact (r.drop _).take _
theorem cutD_all (xs : List Dat) (lo hi : Option Int) (h1 : HT.sIx xs.length 0 lo = 0) (h2 : HT.sIx xs.length xs.length hi = xs.length) : cutD xs lo hi = xs := by
  unfold cutD
  rw [h1, h2]
  simp
def aSlF (ea : AEx) (al ah : AOp) : AFr := fun env P => ea env fun x => al env fun lo => ah env fun hi => lQ x fun xs => P (cutD xs lo hi)
def aSlT (ea : AEx) (al ah : AOp) : AEx := fun env P => ea env fun x => al env fun lo => ah env fun hi => tQ x fun xs => P (.tup (cutD xs lo hi))
theorem a_slT {tl th : TO} {al ah : AOp} (ha : AExp W H0 te ea) (hl : AOpt W H0 tl al) (hh : AOpt W H0 th ah) : AExp W H0 (tSl (rSlF W.K) te tl th) (aSlT ea al ah) :=
  ⟨fun σ env F H Q P ok m q k => ha.run σ env F H _ _ ok m q fun d F1 H1 v p1 x1 r1 => hl.run σ env F1 H1 _ _ x1.ok (m.ext ok x1) p1 fun lo F2 H2 p2 x2 => hh.run σ env F2 H2 _ _ x2.ok (m.ext ok (x1.trans ok x2)) p2 fun hi F3 H3 p3 x3 => by
    have r3 := (r1.sub (x2.sub x1.ok)).sub (x3.sub x2.ok)
    have x13 := (x1.trans ok x2).trans ok x3
    cases r3 with
    | @tup a vs xs h rr =>
      refine ⟨a, vs, rfl, h.sq, fun ⟨h1, h2⟩ => ?_, fun _ l o n tp => ?_⟩
      · rw [rr.length] at h1 h2
        have p3 : P (.tup (cutD xs lo hi)) := p3
        rw [cutD_all xs lo hi h1 h2] at p3
        exact k _ F3 H3 _ p3 x13 (.tup h rr)
      · have x4 : Ext W F3 H3 (fun b => F3 b ∨ b = l) (upd H3 l o) := Ext.new x3.ok n
        exact k _ _ _ _ p3 (x13.trans ok x4) (.tup ⟨.inr rfl, o, upd_same, tp⟩ ((rr.cut lo hi).sub (x4.sub x3.ok)))
    | _ => exact p3.elim⟩
end
theorem kQ_sub {W : Wd} {F F2 : Addr → Prop} {H H2 : Hp} {k : Bool} {a : Addr} {vs : List V} (h : if k = true then FzT W F H a vs else F a ∧ H a = some (.lst vs)) (s : Sub F H F2 H2) : SqK k W.K H2 a vs := by
  cases k with
  | true => exact ((show FzT W F H a vs from h).sub s).sq
  | false =>
    have h : F a ∧ H a = some (.lst vs) := h
    exact SqL.of ((s a h.1).2.trans h.2)
theorem kQ_rv {W : Wd} {F : Addr → Prop} {H : Hp} {k : Bool} {v : V} {d : Dat} {P : List Dat → Prop} (r : Rv W F H v d) (q : kQ k d P) : ∃ a vs xs, v = .ref a ∧ (if k = true then FzT W F H a vs else F a ∧ H a = some (.lst vs)) ∧ RvAll W F H vs xs ∧ P xs := by
  cases k with
  | true =>
    cases r with
    | tup h rr => exact ⟨_, _, _, rfl, h, rr, q⟩
    | _ => exact (show False from q).elim
  | false =>
    cases r with
    | lst f h rr => exact ⟨_, _, _, rfl, ⟨f, h⟩, rr, q⟩
    | _ => exact (show False from q).elim
/-- pairs, as far as both go -/
def zipD : List Dat → List Dat → List Dat
  | x :: xs, y :: ys => .tup [x, y] :: zipD xs ys
  | _, _ => []
def enumD : Nat → List Dat → List Dat
  | _, [] => []
  | n, x :: xs => .tup [.int (n : Nat), x] :: enumD (n + 1) xs
theorem enumD_get : ∀ (xs : List Dat) (n i : Nat) (d : Dat), (enumD n xs)[i]? = some d → ∃ x, xs[i]? = some x ∧ d = .tup [.int ((n + i : Nat) : Int), x]
  | [], n, i, d, e => by simp [enumD] at e
  | x :: xs, n, 0, d, e => by
    simp only [enumD, List.getElem?_cons_zero, Option.some.injEq] at e
    exact ⟨x, rfl, e.symm⟩
  | x :: xs, n, i + 1, d, e => by
    simp only [enumD, List.getElem?_cons_succ] at e ⊢
    obtain ⟨y, h1, h2⟩ := enumD_get xs (n + 1) i d e
    exact ⟨y, h1, by rw [h2, Nat.add_right_comm, Nat.add_assoc]⟩
theorem enumD_len : ∀ (xs : List Dat) (n : Nat), (enumD n xs).length = xs.length
  | [], _ => rfl
  | _ :: xs, n => congrArg (· + 1) (enumD_len xs (n + 1))
def iZipA (k1 k2 : Bool) (aa : AFr) : AFr := fun env P => aa env fun ds => match ds with
  | [x, y] => kQ k1 x fun xs => kQ k2 y fun ys => P (zipD xs ys)
  | _ => False
def iEnA (k : Bool) (aa : AFr) : AFr := fun env P => aa env fun ds => match ds with
  | [x] => kQ k x fun xs => P (enumD 0 xs)
  | _ => False
section
variable {W : Wd} {H0 : Hp} {te ta tb : TE} {ae ea eb : AEx}
theorem i_K {k : Bool} (ha : AExp W H0 ta ea) : AIter W H0 (iK k W.K ta) (iSeq (kQ k) ea) := ⟨fun σ env F H R P ok m q kk => ha.run σ env F H _ _ ok m q fun d F1 H1 v p1 x1 r1 => by
  cases k with
  | true =>
    cases r1 with
    | tup h r => exact ⟨_, rfl, ⟨_, h.sq⟩, kk _ F1 H1 _ p1 x1 (it_tup h r)⟩
    | _ => exact (show False from p1).elim
  | false =>
    cases r1 with
    | lst f h r => exact ⟨_, rfl, ⟨_, SqL.of h⟩, kk _ F1 H1 _ p1 x1 (it_list f h r)⟩
    | _ => exact (show False from p1).elim⟩
theorem i_enum {k : Bool} {t : TA} {aa : AFr} (h : AArg W H0 1 t aa) : AIter W H0 (iEnumF k W.K t) (iEnA k aa) := ⟨fun σ env F H R P ok m q kk => h.run σ env F H _ _ ok m q fun ds F1 H1 vs p1 x1 r1 l1 => by
  match ds, l1, p1, r1 with
  | [d], _, p1, .cons r1 .nil =>
    have p1 : kQ k d fun xs => P (enumD 0 xs) := p1
    obtain ⟨a, us, xs, rfl, ha, ra, p1⟩ := kQ_rv r1 p1
    refine ⟨a, us, rfl, kQ_sub ha (Sub.refl _ _), kk _ F1 H1 _ p1 x1 ⟨fun F2 H2 ok2 s i z e => ?_, fun F2 H2 ok2 s => ?_⟩⟩
    · obtain ⟨x, e1, rfl⟩ := enumD_get xs 0 i z e
      obtain ⟨v, f1, rv⟩ := ra.get e1
      have qa2 : SqK k W.K H2 a us := kQ_sub ha s
      refine ⟨⟨us, v, qa2, f1⟩, fun u H3 yl => ?_⟩
      obtain ⟨T, v', o, rfl, hT, tp, rfl, g1⟩ := yl
      have g1 := g1 us qa2
      rw [f1] at g1
      cases g1
      have x2 : Ext W F2 H2 (fun c => F2 c ∨ c = T) (upd H2 T o) := Ext.new ok2 hT
      have s2 := s.trans (x2.sub ok2)
      exact ⟨_, x2, .tup ⟨.inr rfl, o, upd_same, tp⟩ (.cons (by rw [Nat.zero_add]; exact .int _) (.cons (rv.sub s2) .nil))⟩
    · exact ⟨us, kQ_sub ha s, by rw [enumD_len, ra.length]⟩⟩
end
def flatD : Dat → Bool
  | .int _ => true
  | .str _ => true
  | _ => false
/-- x in xs: ints and texts -/
def kIn (n : Bool) : Dat → Dat → (Dat → Prop) → Prop := fun x y P => flatD x = true ∧ sQ y fun xs => xs.all flatD = true ∧ ∀ b : Bool, (b = true ↔ x ∈ xs) → P (.bl (if n then !b else b))
theorem flat_v {W : Wd} {F : Addr → Prop} {H : Hp} {v : V} {d : Dat} (r : Rv W F H v d) (f : flatD d = true) : flatV v = true := by
  cases r <;> first | rfl | cases f
theorem flat_vs {W : Wd} {F : Addr → Prop} {H : Hp} : ∀ {vs : List V} {ds : List Dat}, RvAll W F H vs ds → ds.all flatD = true → vs.all flatV = true
  | _, _, .nil, _ => rfl
  | _, _, .cons a r, f => by
    rw [List.all_cons, Bool.and_eq_true] at f ⊢
    exact ⟨flat_v a f.1, flat_vs r f.2⟩
theorem eqV_flat {W : Wd} {F : Addr → Prop} {H : Hp} {v w : V} {d e : Dat} (r : Rv W F H v d) (s : Rv W F H w e) (f : flatD d = true) (g : flatD e = true) : eqV w v = true ↔ e = d := by
  cases r with
  | int i =>
    cases s with
    | int j =>
      show (j == i) = true ↔ _
      rw [beq_iff_eq]
      exact ⟨fun h => by rw [h], fun h => Dat.int.inj h⟩
    | str y => exact ⟨fun h => (by cases h), fun h => (by cases h)⟩
    | _ => cases g
  | str x =>
    cases s with
    | int j => exact ⟨fun h => (by cases h), fun h => (by cases h)⟩
    | str y =>
      show (y == x) = true ↔ _
      rw [beq_iff_eq]
      exact ⟨fun h => by rw [h], fun h => Dat.str.inj h⟩
    | _ => cases g
  | _ => cases f
theorem inV_mem {W : Wd} {F : Addr → Prop} {H : Hp} {v : V} {d : Dat} (r : Rv W F H v d) (f : flatD d = true) : ∀ {vs : List V} {ds : List Dat}, RvAll W F H vs ds → ds.all flatD = true → (inV v vs = true ↔ d ∈ ds)
  | _, _, .nil, _ => ⟨fun h => (by cases h), fun h => (by cases h)⟩
  | _, _, .cons (v := u) (d := e) a s, g => by
    rw [List.all_cons, Bool.and_eq_true] at g
    have ih := inV_mem r f s g.2
    have he := eqV_flat r a f g.1
    unfold inV at ih ⊢
    rw [List.any_cons, Bool.or_eq_true, ih, he, List.mem_cons]
    exact ⟨fun h => h.imp (fun z => z.symm) id, fun h => h.imp (fun z => z.symm) id⟩
theorem rok_in {W : Wd} {n : Bool} : ROk W Rv Pk Rv (rIn W.K n) (kIn n) := fun F H x y d e Q P ok r1 r2 q k => by
  obtain ⟨f, q⟩ := q
  obtain ⟨a, vs, xs, rfl, h, rr, ⟨g, q⟩, _⟩ := r2.seq ok q
  refine ⟨a, vs, rfl, h, flat_v r1 f, flat_vs rr g, ?_⟩
  have := q (inV x vs) (inV_mem r1 f rr g)
  cases n with
  | true => exact k _ F H _ this (.refl ok) (.bl _)
  | false => exact k _ F H _ this (.refl ok) (.bl _)
mutual
def pyD : Dat → PyData
  | .int i => .int i
  | .str x => .str x
  | .lst xs => .list (pyAll xs)
  | .tup xs => .tuple (pyAll xs)
  | _ => .none
def pyAll : List Dat → List PyData
  | [] => []
  | x :: xs => pyD x :: pyAll xs
end
mutual
def layD : Dat → Bool
  | .int _ => true
  | .str x => PyData.strOk x
  | .lst xs => layAll xs
  | .tup xs => layAll xs
  | .non => true
  | _ => false
def layAll : List Dat → Bool
  | [] => true
  | x :: xs => layD x && layAll xs
end
def okE (n : Nat) (d : Dat) : Prop := layD d = true ∧ PyData.depth (pyD d) ≤ n
mutual
theorem lay_can : ∀ d : Dat, layD d = true → PyData.canLay0 (pyD d) = true
  | .non, _ => rfl
  | .int _, _ => rfl
  | .str _, h => h
  | .lst xs, h => by
    show PyData.canLayAll0 (pyAll xs) = true
    exact layAll_can xs h
  | .tup xs, h => by
    show PyData.canLayAll0 (pyAll xs) = true
    exact layAll_can xs h
  | .bl _, h => by cases h
  | .pool, h => by cases h
  | .obj _ _, h => by cases h
  | .dK _, h => by cases h
  | .dT _ _, h => by cases h
  | .rng _ _, h => by cases h
theorem layAll_can : ∀ xs : List Dat, layAll xs = true → PyData.canLayAll0 (pyAll xs) = true
  | [], _ => rfl
  | x :: xs, h => by
    have h : (layD x && layAll xs) = true := h
    rw [Bool.and_eq_true] at h
    show (PyData.canLay0 (pyD x) && PyData.canLayAll0 (pyAll xs)) = true
    rw [lay_can x h.1, layAll_can xs h.2]
    rfl
end
mutual
theorem lay_dp {W : Wd} {F : Addr → Prop} {H : Hp} : ∀ {v : V} {d : Dat}, Rv W F H v d → layD d = true → Dp W.K H v (pyD d)
  | _, _, .non, _ => .non
  | _, _, .int i, _ => .int i
  | _, _, .str x, _ => .str x
  | _, _, .lst f h r, q => .lst (SqL.of h) (layAll_dp r q)
  | _, _, .tup h r, q => .tup h.sq (layAll_dp r q)
  | _, _, .bl _, q => by cases q
  | _, _, .pool _, q => by cases q
  | _, _, .obj _ _ _ _, q => by cases q
  | _, _, .dK _ _ _, q => by cases q
  | _, _, .dT _ _ _ _ _ _, q => by cases q
  | _, _, .rng _ _, q => by cases q
theorem layAll_dp {W : Wd} {F : Addr → Prop} {H : Hp} : ∀ {vs : List V} {ds : List Dat}, RvAll W F H vs ds → layAll ds = true → DpAll W.K H vs (pyAll ds)
  | _, _, .nil, _ => .nil
  | _, _, .cons a r, q => by
    have q : (_ && _) = true := q
    rw [Bool.and_eq_true] at q
    exact .cons (lay_dp a q.1) (layAll_dp r q.2)
end
mutual
theorem lay_eqv : ∀ d e : Dat, layD d = true → layD e = true → (PyData.eqv (pyD d) (pyD e) = true ↔ d = e)
  | .int i, .int j, _, _ => by
    show (i == j) = true ↔ _
    rw [beq_iff_eq]
    exact ⟨fun e => by rw [e], fun e => Dat.int.inj e⟩
  | .str i, .str j, _, _ => by
    show (i == j) = true ↔ _
    rw [beq_iff_eq]
    exact ⟨fun e => by rw [e], fun e => Dat.str.inj e⟩
  | .lst xs, .lst ys, h1, h2 => by
    show PyData.eqvAll (pyAll xs) (pyAll ys) = true ↔ _
    rw [layAll_eqv xs ys h1 h2]
    exact ⟨fun e => by rw [e], fun e => Dat.lst.inj e⟩
  | .tup xs, .tup ys, h1, h2 => by
    show PyData.eqvAll (pyAll xs) (pyAll ys) = true ↔ _
    rw [layAll_eqv xs ys h1 h2]
    exact ⟨fun e => by rw [e], fun e => Dat.tup.inj e⟩
  | .non, .non, _, _ => ⟨fun _ => rfl, fun _ => rfl⟩
  | .non, .int _, _, _ => ⟨fun h => (by cases h), fun h => (by cases h)⟩
  | .non, .str _, _, _ => ⟨fun h => (by cases h), fun h => (by cases h)⟩
  | .non, .lst _, _, _ => ⟨fun h => (by cases h), fun h => (by cases h)⟩
  | .non, .tup _, _, _ => ⟨fun h => (by cases h), fun h => (by cases h)⟩
  | .int _, .non, _, _ => ⟨fun h => (by cases h), fun h => (by cases h)⟩
  | .int _, .str _, _, _ => ⟨fun h => (by cases h), fun h => (by cases h)⟩
  | .int _, .lst _, _, _ => ⟨fun h => (by cases h), fun h => (by cases h)⟩
  | .int _, .tup _, _, _ => ⟨fun h => (by cases h), fun h => (by cases h)⟩
  | .str _, .non, _, _ => ⟨fun h => (by cases h), fun h => (by cases h)⟩
  | .str _, .int _, _, _ => ⟨fun h => (by cases h), fun h => (by cases h)⟩
  | .str _, .lst _, _, _ => ⟨fun h => (by cases h), fun h => (by cases h)⟩
  | .str _, .tup _, _, _ => ⟨fun h => (by cases h), fun h => (by cases h)⟩
  | .lst _, .non, _, _ => ⟨fun h => (by cases h), fun h => (by cases h)⟩
  | .lst _, .int _, _, _ => ⟨fun h => (by cases h), fun h => (by cases h)⟩
  | .lst _, .str _, _, _ => ⟨fun h => (by cases h), fun h => (by cases h)⟩
  | .lst _, .tup _, _, _ => ⟨fun h => (by cases h), fun h => (by cases h)⟩
  | .tup _, .non, _, _ => ⟨fun h => (by cases h), fun h => (by cases h)⟩
  | .tup _, .int _, _, _ => ⟨fun h => (by cases h), fun h => (by cases h)⟩
  | .tup _, .str _, _, _ => ⟨fun h => (by cases h), fun h => (by cases h)⟩
  | .tup _, .lst _, _, _ => ⟨fun h => (by cases h), fun h => (by cases h)⟩
  | .bl _, _, h, _ => by cases h
  | .pool, _, h, _ => by cases h
  | .obj _ _, _, h, _ => by cases h
  | .dK _, _, h, _ => by cases h
  | .dT _ _, _, h, _ => by cases h
  | .rng _ _, _, h, _ => by cases h
  | _, .bl _, _, h => by cases h
  | _, .pool, _, h => by cases h
  | _, .obj _ _, _, h => by cases h
  | _, .dK _, _, h => by cases h
  | _, .dT _ _, _, h => by cases h
  | _, .rng _ _, _, h => by cases h
theorem layAll_eqv : ∀ xs ys : List Dat, layAll xs = true → layAll ys = true → (PyData.eqvAll (pyAll xs) (pyAll ys) = true ↔ xs = ys)
  | [], [], _, _ => ⟨fun _ => rfl, fun _ => rfl⟩
  | [], _ :: _, _, _ => ⟨fun h => (by cases h), fun h => (by cases h)⟩
  | _ :: _, [], _, _ => ⟨fun h => (by cases h), fun h => (by cases h)⟩
  | x :: xs, y :: ys, h1, h2 => by
    have h1 : (layD x && layAll xs) = true := h1
    have h2 : (layD y && layAll ys) = true := h2
    rw [Bool.and_eq_true] at h1 h2
    show (PyData.eqv (pyD x) (pyD y) && PyData.eqvAll (pyAll xs) (pyAll ys)) = true ↔ _
    rw [Bool.and_eq_true, lay_eqv x y h1.1 h2.1, layAll_eqv xs ys h1.2 h2.2, List.cons.injEq]
end
theorem okE_sh {d : Dat} (h : okE 64 d) : SeqAt.shaped (pyD d) = true := by
  unfold SeqAt.shaped
  rw [lay_can d h.1, decide_eq_true h.2]
  rfl
theorem layAll_of : ∀ {xs : List Dat}, (∀ x ∈ xs, layD x = true) → layAll xs = true
  | [], _ => rfl
  | x :: xs, h => by
    show (layD x && layAll xs) = true
    rw [h x List.mem_cons_self, layAll_of fun y hy => h y (List.mem_cons_of_mem _ hy)]
    rfl
theorem depAll_of : ∀ {xs : List Dat} {n : Nat}, (∀ x ∈ xs, PyData.depth (pyD x) ≤ n) → PyData.depthAll (pyAll xs) ≤ n
  | [], n, _ => Nat.zero_le n
  | x :: xs, n, h => by
    show max (PyData.depth (pyD x)) (PyData.depthAll (pyAll xs)) ≤ n
    exact Nat.max_le.mpr ⟨h x List.mem_cons_self, depAll_of fun y hy => h y (List.mem_cons_of_mem _ hy)⟩
theorem okE.up {n m : Nat} {d : Dat} (h : okE n d) (l : n ≤ m) : okE m d := ⟨h.1, Nat.le_trans h.2 l⟩
theorem okE_int (i : Int) (n : Nat) : okE n (.int i) := ⟨rfl, Nat.zero_le n⟩
theorem okE_tup {xs : List Dat} {n : Nat} (h : ∀ x ∈ xs, okE n x) : okE (n + 1) (.tup xs) := ⟨layAll_of fun x hx => (h x hx).1, Nat.succ_le_succ (depAll_of fun x hx => (h x hx).2)⟩
theorem okE_lst {xs : List Dat} {n : Nat} (h : ∀ x ∈ xs, okE n x) : okE (n + 1) (.lst xs) := ⟨layAll_of fun x hx => (h x hx).1, Nat.succ_le_succ (depAll_of fun x hx => (h x hx).2)⟩
def kEqD (n : Bool) : Dat → Dat → (Dat → Prop) → Prop := fun d e P => okE 64 d ∧ okE 64 e ∧ ∀ b : Bool, (b = true ↔ d = e) → P (.bl (if n then !b else b))
theorem Pk.dp {W : Wd} {F : Addr → Prop} {H : Hp} {v : V} {d : Dat} (r : Pk W F H v d) (h : layD d = true) : Dp W.K H v (pyD d) := by
  cases r with
  | rv r => exact lay_dp r h
  | own hA _ r => exact .lst (SqL.of hA) (layAll_dp r h)
theorem rok_eqD {W : Wd} : ROk W Pk Pk Rv (rEqD W.K) (kEqD false) := fun F H x y d e Q P ok r1 r2 ⟨h1, h2, q⟩ k =>
  ⟨_, _, r1.dp h1.1, r2.dp h2.1, okE_sh h1, okE_sh h2, k _ F H _ (q _ (lay_eqv d e h1.1 h2.1)) (.refl ok) (.bl _)⟩
theorem rok_neD {W : Wd} : ROk W Pk Pk Rv (rNeD W.K) (kEqD true) := fun F H x y d e Q P ok r1 r2 ⟨h1, h2, q⟩ k =>
  ⟨_, _, r1.dp h1.1, r2.dp h2.1, okE_sh h1, okE_sh h2, k _ F H _ (q _ (lay_eqv d e h1.1 h2.1)) (.refl ok) (.bl _)⟩
abbrev ASpI := List Dat → (List Dat → Prop) → Prop
def toSpI (K : PySem.W.Frag) (ca : Nat → Addr) (c : Nat) (asp : ASpI) : Sp := fun vs H Q _ => ∃ (po : Option (Addr × Addr)) (F : Addr → Prop) (H1 : Hp) (x dx : Addr) (ws : List V) (ds : List Dat) (P : List Dat → Prop),
  vs = .ref x :: ws ∧ H = upd (upd H1 dx (.own x)) x (.ins (ca c) dx []) ∧ H1 x = none ∧ H1 dx = none ∧ dx ≠ x ∧ Okk ⟨K, ca, po⟩ F H1 ∧ RvAll ⟨K, ca, po⟩ F H1 ws ds ∧ asp ds P ∧
  ∀ fs F' H', P fs → Ext ⟨K, ca, po⟩ F H1 F' H' → Rv ⟨K, ca, po⟩ F' H' (.ref x) (.obj c fs) → Q .non H'
def aMake (c : Nat) (asp : ASpI) (aa : AFr) : AEx := fun env P => aa env fun ds => asp ds fun fs => P (.obj c fs)
theorem a_make {K : PySem.W.Frag} {ca : Nat → Addr} {po : Option (Addr × Addr)} {H0 : Hp} {n c : Nat} {E : XK} {t : TA} {aa : AFr} {asp : ASpI} (h : AArg ⟨K, ca, po⟩ H0 n t aa) :
    AExp ⟨K, ca, po⟩ H0 (tMake (ca c) (toSpI K ca c asp) [] E t) (aMake c asp aa) := ⟨fun σ env F H Q P ok m q k => h.run σ env F H _ _ ok m q fun ds F1 H1 vs p1 x1 r1 _ => by
  intro x dx hx hdx hne
  rw [List.append_nil]
  exact ⟨po, F1, H1, x, dx, vs, ds, _, rfl, rfl, hx, hdx, hne, x1.ok, r1, p1, fun fs F' H' p e r => ⟨rfl, k _ F' H' _ p (x1.trans ok e) r⟩⟩⟩
/-- the statements of an __init__: self.f = e, one for each attribute, in order; k of them are done -/
structure AIni (W : Wd) (c : Nat) (k : Nat) (ts : TS) (ai : List Sl → (List Dat → Prop) → Prop) : Prop where
  run : ∀ (H1 : Hp) (x dx : Addr) (σ : L2.St) (env : List Sl) (F1 F : Addr → Prop) (H : Hp) (fs : List (Str × V)) (ds : List Dat) (De : Ends) (P : List Dat → Prop), H1 x = none → Okk W F1 H1 → Ext W F1 H1 F H → ¬ F x → H x = some (.ins (W.ca c) dx fs) → fs.length ≤ k → RvFs W F H fs ((clsN c).take k) ds →
    (∀ m, m ∉ (clsN c).take k → fs.lookup m = none) → Mt W H1 F H σ env → σ[0]? = some (some (.ref x)) → ai env P →
    (∀ es F' H' σ', P es → Ext W F1 H1 F' H' → Rv W F' H' (.ref x) (.obj c (ds ++ es)) → De.nx σ' H') → ts De σ H
def iNil : List Sl → (List Dat → Prop) → Prop := fun _ P => P []
def iCons (ea : AEx) (ai : List Sl → (List Dat → Prop) → Prop) : List Sl → (List Dat → Prop) → Prop := fun env P => ea env fun d => ai env fun es => P (d :: es)
theorem putF_len (f : Str) (v : V) : ∀ fs : List (Str × V), (putF f v fs).length ≤ fs.length + 1
  | [] => Nat.le_refl _
  | (g, x) :: r => by
    show (if g = f then (g, v) :: r else (g, x) :: putF f v r).length ≤ _
    by_cases h : g = f
    · rw [if_pos h]
      exact Nat.le_succ _
    · rw [if_neg h]
      exact Nat.succ_le_succ (putF_len f v r)
theorem RvFs.len {W : Wd} {F : Addr → Prop} {H : Hp} : ∀ {fs : List (Str × V)} {ks : List Str} {ds : List Dat}, RvFs W F H fs ks ds → ks.length = ds.length
  | _, _, _, .nil => rfl
  | _, _, _, .cons _ _ r => congrArg (· + 1) r.len
theorem RvFs.put {W : Wd} {F : Addr → Prop} {H : Hp} {f : Str} {v : V} : ∀ {fs : List (Str × V)} {ks : List Str} {ds : List Dat}, RvFs W F H fs ks ds → f ∉ ks → RvFs W F H (putF f v fs) ks ds
  | _, _, _, .nil, _ => .nil
  | _, k :: ks, _, .cons e a r, h => .cons (by rw [lookup_putF, if_neg (fun z => h (by rw [z]; exact List.mem_cons_self))]; exact e) a (r.put fun z => h (List.mem_cons_of_mem _ z))
theorem RvFs.snoc {W : Wd} {F : Addr → Prop} {H : Hp} {f : Str} {v : V} {d : Dat} {fs : List (Str × V)} (e : fs.lookup f = some v) (a : Rv W F H v d) : ∀ {ks : List Str} {ds : List Dat}, RvFs W F H fs ks ds → RvFs W F H fs (ks ++ [f]) (ds ++ [d])
  | _, _, .nil => .cons e a .nil
  | _, _, .cons e1 a1 r => .cons e1 a1 (r.snoc e a)
theorem i_nil {W : Wd} {c : Nat} : AIni W c (clsN c).length tNext iNil := ⟨fun H1 x dx σ env F1 F H fs ds De P hx ok1 b nf hX ln r no m s0 q k => by
  rw [List.take_length] at r no
  have b2 : Ext W F1 H1 (fun a => F a ∨ a = x) H := b.fz ok1 hx hX
  refine k [] _ H σ q b2 ?_
  rw [List.append_nil]
  exact .obj (.inr rfl) hX (r.sub (sub_fz x)) no⟩
theorem i_cons {W : Wd} {c k : Nat} {te : TE} {ea : AEx} {f : Str} {ts : TS} {ai : List Sl → (List Dat → Prop) → Prop} (cl : Cls W.K (W.ca c)) (na : NoAttr W.K (W.ca c) f) (hf : (clsN c)[k]? = some f) (nd : f ∉ (clsN c).take k) (hk : k < 900) (he : ∀ H0, AExp W H0 te ea) (h2 : AIni W c (k + 1) ts ai) :
    AIni W c k (tSeq (sFld W.K (tVar 0) te f) ts) (iCons ea ai) := ⟨fun H1 x dx σ env F1 F H fs ds De P hx ok1 b nf hX ln r no m s0 q kk => by
  refine (he H1).run σ env F H _ _ b.ok m q fun d F' H' v p x1 rv => ?_
  have hX' : H' x = some (.ins (W.ca c) dx fs) := x1.kp x _ hX fun p c e => (ok1.pne hx p c e).1
  have nf' : ¬ F' x := fun f => by
    rcases x1.dn x f with z | z
    · exact nf z
    · rw [z] at hX
      cases hX
  refine ⟨.ref x, s0, x, W.ca c, dx, fs, rfl, hX', cl, na, by omega, ?_⟩
  have sb : Sub F' H' F' (upd H' x (.ins (W.ca c) dx (putF f v fs))) := fun a f => ⟨f, upd_ne (fun z => nf' (by rw [← z]; exact f))⟩
  have b' := b.trans ok1 x1
  have np := ok1.pne hx
  have b2 : Ext W F1 H1 F' (upd H' x (.ins (W.ca c) dx (putF f v fs))) := ⟨b'.up, b'.dn, fun a o ha npa => by
    rw [upd_ne (ne_of_none ha hx)]
    exact b'.kp a o ha npa, ⟨fun a f => by
    rw [(sb a f).2]
    exact x1.ok.tr a f, fun p c e => by
    obtain ⟨h1, h2, h3⟩ := x1.ok.po p c e
    exact ⟨h1.mut (np p c e).1 (np p c e).2, h2, h3⟩⟩⟩
  have tk : (clsN c).take (k + 1) = (clsN c).take k ++ [f] := by rw [List.take_add_one, hf]; rfl
  have m' := m.ext b.ok x1
  have lk : (putF f v fs).lookup f = some v := by rw [lookup_putF, if_pos rfl]
  have ll : (putF f v fs).length ≤ k + 1 := by
    have := putF_len f v fs
    omega
  refine h2.run H1 x dx σ env F1 F' _ (putF f v fs) (ds ++ [d]) De _ hx ok1 b2 nf' upd_same ll ?_ (fun mm hm => ?_) ?_ s0 p fun es F2 H2 σ2 pe e2 r2 => ?_
  · rw [tk]
    exact (((r.sub (x1.sub b.ok)).put nd).snoc lk rv).sub sb
  · rw [tk] at hm
    rw [lookup_putF, if_neg (fun z => hm (by rw [z]; exact List.mem_append.mpr (.inr List.mem_cons_self)))]
    exact no mm fun z => hm (List.mem_append.mpr (.inl z))
  · refine ⟨m'.ln, fun i s e => ?_, m'.own⟩
    obtain ⟨ov, eo, so⟩ := m'.at_ i s e
    refine ⟨ov, eo, ?_⟩
    cases s with
    | u => trivial
    | d y =>
      obtain ⟨w, ew, rw_⟩ := so
      exact ⟨w, ew, rw_.sub sb⟩
    | o us =>
      obtain ⟨a, vs, ea, nfa, n0a, ha, ra, npa⟩ := so
      have hax : a ≠ x := fun z => by
        rw [z, hX'] at ha
        cases ha
      exact ⟨a, vs, ea, nfa, n0a, by rw [upd_ne hax]; exact ha, ra.sub sb, npa⟩
  · rw [List.append_assoc] at r2
    exact kk (d :: es) F2 H2 σ2 pe e2 r2⟩
theorem twoI {b : Bool} {p q : Prop} (h1 : b = true → p) (h2 : b = false → q) : two b p q := by
  cases b with
  | true => exact h1 rfl
  | false => exact h2 rfl
theorem twoD {c p q : Prop} [Decidable c] (h1 : c → p) (h2 : ¬ c → q) : two (decide c) p q := twoI (fun h => h1 (of_decide_eq_true h)) (fun h => h2 (of_decide_eq_false h))
theorem twoN {c p q : Prop} [Decidable c] (h1 : ¬ c → p) (h2 : c → q) : two (!decide c) p q := by
  by_cases h : c
  · rw [decide_eq_true h]
    exact h2 h
  · rw [decide_eq_false h]
    exact h1 h
/-- a loop, by what holds between its turns -/
theorem forA_inv {g : ATg} {b : ASt} {D : AEnds} {ds : List Dat} {env : List Sl} (W : Nat → List Sl → Prop) (h0 : W 0 env)
    (hs : ∀ (i : Nat) (d : Dat) (env : List Sl), ds[i]? = some d → W i env → ∀ N : List Sl → Prop, (∀ env', W (i + 1) env' → N env') → g d env fun env2 => b { D with nx := N, ct := N, bk := D.nx } env2)
    (hd : ∀ env, W ds.length env → D.nx env) : forA g b D ds env := by
  have go : ∀ (n i : Nat) (env : List Sl), n + i = ds.length → W i env → forA g b D (ds.drop i) env := by
    intro n
    induction n with
    | zero =>
      intro i env e w
      have : i = ds.length := by omega
      subst this
      rw [List.drop_length]
      exact hd env w
    | succ n ih =>
      intro i env e w
      have hl : i < ds.length := by omega
      rw [List.drop_eq_getElem_cons hl]
      exact hs i _ env (List.getElem?_eq_getElem hl) w (forA g b D (ds.drop (i + 1))) fun env' w' => ih (i + 1) env' (by omega) w'
  exact go ds.length 0 env (by omega) h0
/-- .. over a range -/
theorem forA_ran {g : ATg} {b : ASt} {D : AEnds} {n : Nat} {lo : Int} {env : List Sl} (W : Nat → List Sl → Prop) (h0 : W 0 env)
    (hs : ∀ (i : Nat) (env : List Sl), i < n → W i env → ∀ N : List Sl → Prop, (∀ env', W (i + 1) env' → N env') → g (.int (lo + i)) env fun env2 => b { D with nx := N, ct := N, bk := D.nx } env2)
    (hd : ∀ env, W n env → D.nx env) : forA g b D ((List.range n).map fun i => Dat.int (lo + (i : Nat))) env := by
  refine forA_inv W h0 (fun i d env e w N hN => ?_) (fun env w => hd env (by rw [List.length_map, List.length_range] at w; exact w))
  rw [List.getElem?_map] at e
  cases h : (List.range n)[i]? with
  | none =>
    rw [h] at e
    cases e
  | some j =>
    rw [h] at e
    obtain ⟨hl, e1⟩ := List.getElem?_eq_some_iff.mp h
    rw [List.getElem_range] at e1
    subst e1
    rw [List.length_range] at hl
    cases e
    exact hs i env hl w N hN
theorem sp_ex {κ : Type} {K : PySem.W.Frag} {ca : Nat → Addr} {a : κ → ASp} {vs : List V} {H : Hp} {Q : VK} {E : XK} (h : toSp K ca (fun ds P => ∃ k, a k ds P) vs H Q E) : ∃ k, toSp K ca (a k) vs H Q E := by
  obtain ⟨po, F, ds, P, ok, r, ⟨k, q⟩, z⟩ := h
  exact ⟨k, po, F, ds, P, ok, r, q, z⟩
theorem forA_map {α : Type} {f : α → Dat} {xs : List α} {g : ATg} {b : ASt} {D : AEnds} {env : List Sl} (W : Nat → List Sl → Prop) (h0 : W 0 env)
    (hs : ∀ (i : Nat) (x : α) (env : List Sl), xs[i]? = some x → W i env → ∀ N : List Sl → Prop, (∀ env', W (i + 1) env' → N env') → g (f x) env fun env2 => b { D with nx := N, ct := N, bk := D.nx } env2)
    (hd : ∀ env, W xs.length env → D.nx env) : forA g b D (xs.map f) env := by
  refine forA_inv W h0 (fun i d env e w N hN => ?_) (fun env w => hd env (by rw [List.length_map] at w; exact w))
  rw [List.getElem?_map] at e
  cases h : xs[i]? with
  | none =>
    rw [h] at e
    cases e
  | some x =>
    rw [h] at e
    cases e
    exact hs i x env h w N hN
theorem lcA_mapL {α : Type} {f : α → Dat} {xs : List α} {el : Dat → (Option Dat → Prop) → Prop} {P : List Dat → Prop} (g : α → Dat) (h : ∀ x ∈ xs, ∀ Q : Option Dat → Prop, Q (some (g x)) → el (f x) Q) (k : P (xs.map g)) : lcA el P (xs.map f) [] := by
  have gen : ∀ (ys : List α) (acc : List Dat), (∀ x ∈ ys, ∀ Q : Option Dat → Prop, Q (some (g x)) → el (f x) Q) → P (acc ++ ys.map g) → lcA el P (ys.map f) acc := by
    intro ys
    induction ys with
    | nil =>
      intro acc _ k
      rw [List.map_nil, List.append_nil] at k
      exact k
    | cons y ys ih =>
      intro acc h k
      refine h y List.mem_cons_self _ ?_
      show lcA el P (ys.map f) (acc ++ [g y])
      refine ih _ (fun x hx => h x (List.mem_cons_of_mem _ hx)) ?_
      rw [List.append_assoc]
      exact k
  exact gen xs [] h k
theorem lcA_relL {α : Type} {f : α → Dat} {xs : List α} {el : Dat → (Option Dat → Prop) → Prop} {P : List Dat → Prop} (R : α → Dat → Prop) (h : ∀ x ∈ xs, ∀ Q : Option Dat → Prop, (∀ y, R x y → Q (some y)) → el (f x) Q) (k : ∀ ys, Paired R xs ys → P ys) : lcA el P (xs.map f) [] := by
  have gen : ∀ (zs : List α) (acc : List Dat), (∀ x ∈ zs, ∀ Q : Option Dat → Prop, (∀ y, R x y → Q (some y)) → el (f x) Q) → (∀ ys, Paired R zs ys → P (acc ++ ys)) → lcA el P (zs.map f) acc := by
    intro zs
    induction zs with
    | nil =>
      intro acc _ k
      have := k [] .nil
      rw [List.append_nil] at this
      exact this
    | cons z zs ih =>
      intro acc h k
      refine h z List.mem_cons_self _ fun y r => ?_
      show lcA el P (zs.map f) (acc ++ [y])
      refine ih _ (fun x hx => h x (List.mem_cons_of_mem _ hx)) fun ys p => ?_
      rw [List.append_assoc]
      exact k (y :: ys) (.cons r p)
  exact gen xs [] h k
theorem paired_ints {α : Type} {xs : List α} {ys : List Dat} {R : α → Int → Prop} (h : Paired (fun x y => ∃ n, y = Dat.int n ∧ R x n) xs ys) : ∃ ns : List Int, ys = ns.map Dat.int ∧ ns.length = xs.length ∧ Paired R xs ns := by
  induction h with
  | nil => exact ⟨[], rfl, rfl, .nil⟩
  | cons r _ ih =>
    obtain ⟨n, rfl, r⟩ := r
    obtain ⟨ns, rfl, l, p⟩ := ih
    exact ⟨n :: ns, rfl, congrArg (· + 1) l, .cons r p⟩
theorem paired_mem {α β : Type} {R : α → β → Prop} : ∀ {xs : List α} {ys : List β}, Paired R xs ys → ∀ y ∈ ys, ∃ x ∈ xs, R x y
  | _, _, .nil, _, h => by cases h
  | _, _, .cons r p, y, h => by
    rcases List.mem_cons.mp h with rfl | h
    · exact ⟨_, List.mem_cons_self, r⟩
    · obtain ⟨x, hx, q⟩ := paired_mem p y h
      exact ⟨x, List.mem_cons_of_mem _ hx, q⟩
theorem fn_weak {P : Program} {w : World} {K : PySem.W.Frag} {mg : Str → Option Value} {base : Heap} {CX : CXT} {k : Nat} {f : Addr} {fd : FuncData} {ps : List Str} {sp sp' : Sp} (h : ∀ vs H Q E, sp' vs H Q E → sp vs H Q E) (F : FnOk P w K mg base CX k f fd ps sp) : FnOk P w K mg base CX k f fd ps sp' := by
  obtain ⟨a, b⟩ := F
  exact ⟨fun vs H Q E z => a vs H Q E (h vs H Q E z), fun i1 i2 i3 i4 i5 i6 i7 i8 i9 i10 i11 i12 i13 z => b i1 i2 i3 i4 i5 i6 i7 i8 i9 i10 i11 i12 i13 (h _ _ _ _ z)⟩
theorem ext_same {W : Wd} {F : Addr → Prop} {H H' : Hp} (k : Okk W F H) (s : Same H H') : Ext W F H F H' :=
  ⟨fun _ f => f, fun _ f => .inl f, fun a o e _ => s a o e, ⟨fun a f => (by
    cases e : H a with
    | none => exact absurd e (k.tr a f)
    | some o =>
      rw [s a o e]
      exact fun z => (by cases z)), fun p c e => ⟨(k.po p c e).1.same s, (k.po p c e).2⟩⟩⟩
/-- a Group, as data -/
def grpD (p q : Int) (bs : List Int) : Dat := .obj 0 [.int p, .int q, .tup (bs.map .int)]
/-- the group of a law -/
def lgD (p q : Int) (bs : List Int) : Dat := .tup [.int p, .int q, .lst (bs.map .int)]
def dgetD (kds : List (Key × Dat)) (k : Key) : Option Dat := (kds.find? fun kd => decide (kd.1 = k)).map (·.2)
theorem RvKv.dget {W : Wd} {F : Addr → Prop} {H : Hp} {k : Key} {d : Dat} : ∀ {kvs : List (Key × V)} {kds : List (Key × Dat)}, RvKv W F H kvs kds → dgetD kds k = some d → ∃ v, valV kvs k = some v ∧ Rv W F H v d
  | _, _, .nil, e => by cases e
  | _, _, .cons (k := k') (v := v) (kvs := kvs) (d := d') (kds := kds) a r, e => by
    by_cases h : k' = k
    · have e' : dgetD ((k', d') :: kds) k = some d' := by simp [dgetD, List.find?_cons, h]
      rw [e'] at e
      cases e
      exact ⟨v, valV_pos (p := (k', v)) h, a⟩
    · have e' : dgetD ((k', d') :: kds) k = dgetD kds k := by simp [dgetD, List.find?_cons, h]
      rw [e'] at e
      rw [valV_neg (p := (k', v)) h]
      exact r.dget e
theorem RvKv.zip {W : Wd} {F : Addr → Prop} {H : Hp} : ∀ {ks : List Key} {vs : List V} {ds : List Dat}, RvAll W F H vs ds → RvKv W F H (ks.zip vs) (ks.zip ds)
  | [], _, _, _ => .nil
  | _ :: _, _, _, .nil => .nil
  | _ :: _, _, _, .cons a r => .cons a (RvKv.zip r)
section
variable {W : Wd} {H0 : Hp} {te ta tb : TE} {ae ea eb : AEx}
def kDget : Dat → Dat → (Dat → Prop) → Prop
  | .dK kds, .str s, P => oQ (dgetD kds (.inr s)) P
  | .dK kds, .int i, P => oQ (dgetD kds (.inl i)) P
  | _, _, _ => False
theorem a_dget (ha : AExp W H0 ta ea) (hb : AExp W H0 tb eb) : AExp W H0 (tDGet ta tb) (a2 kDget ea eb) := ⟨fun σ env F H Q P ok m q k => ha.run σ env F H _ _ ok m q fun d F1 H1 v p1 x1 r1 => hb.run σ env F1 H1 _ _ x1.ok (m.ext ok x1) p1 fun e F2 H2 u p2 x2 r2 => by
  have r1' := r1.sub (x2.sub x1.ok)
  cases r1' with
  | @dK a kvs kds fa hA rr =>
    cases r2 with
    | str s =>
      have p2 : oQ (dgetD kds (.inr s)) P := p2
      cases g : dgetD kds (.inr s) with
      | none =>
        rw [g] at p2
        exact p2.elim
      | some z =>
        rw [g] at p2
        obtain ⟨w, e1, rw_⟩ := rr.dget g
        exact ⟨a, w, rfl, by rw [← e1]; exact DGet.k (k := .inr s) hA, k z F2 H2 w p2 (x1.trans ok x2) rw_⟩
    | int i =>
      have p2 : oQ (dgetD kds (.inl i)) P := p2
      cases g : dgetD kds (.inl i) with
      | none =>
        rw [g] at p2
        exact p2.elim
      | some z =>
        rw [g] at p2
        obtain ⟨w, e1, rw_⟩ := rr.dget g
        exact ⟨a, w, rfl, by rw [← e1]; exact DGet.k (k := .inl i) hA, k z F2 H2 w p2 (x1.trans ok x2) rw_⟩
    | _ => exact p2.elim
  | _ => exact p2.elim⟩
def kIsO (c : Nat) : Dat → (Dat → Prop) → Prop
  | .obj c' _, P => c' = c ∧ P (.bl true)
  | _, _ => False
def tyD : Dat → String
  | .non => "NoneType"
  | .bl _ => "bool"
  | .int _ => "int"
  | .str _ => "str"
  | .lst _ => "list"
  | .tup _ => "tuple"
  | .pool => "list"
  | .dK _ => "dict"
  | .dT _ _ => "dict"
  | .rng _ _ => ""
  | .obj _ _ => ""
  | .cell _ => ""
/-- isinstance(x, T), T one of int, bool, str, list, tuple -/
def kIsT (T : String) : Dat → (Dat → Prop) → Prop := fun d P => match d with
  | .obj _ _ => False
  | .pool => False
  | .dK _ => False
  | .dT _ _ => False
  | .rng _ _ => False
  | .cell _ => False
  | d => P (.bl (decide (tyD d = T) || (decide (tyD d = "bool") && decide (T = "int"))))
theorem kitB_all : ∀ n ∈ ["NoneType", "bool", "int", "str", "list", "tuple"], ∀ T ∈ ["int", "bool", "str", "list", "tuple"], kitB n T = some (decide (n = T) || (decide (n = "bool") && decide (T = "int"))) := by decide +kernel
theorem a_isT {T : String} (hT : T ∈ ["int", "bool", "str", "list", "tuple"] := by decide) (ha : AExp W H0 ta ea) : AExp W H0 (tCB (rIsi W.K) (tCons ta (tCons (tC (.ty T)) tNil))) (a1 (kIsT T) ea) := ⟨fun σ env F H Q P ok m q k => ha.run σ env F H _ _ ok m q fun d F1 H1 v p1 x1 r1 => by
  cases r1 with
  | non => exact ⟨_, _, _, _, _, rfl, .ty _, .base .non, kit_ty (kitB_all "NoneType" (by decide) T hT), k _ F1 H1 _ p1 x1 (.bl _)⟩
  | bl b => exact ⟨_, _, _, _, _, rfl, .ty _, .base (.bl b), kit_ty (kitB_all "bool" (by decide) T hT), k _ F1 H1 _ p1 x1 (.bl _)⟩
  | int b => exact ⟨_, _, _, _, _, rfl, .ty _, .base (.int b), kit_ty (kitB_all "int" (by decide) T hT), k _ F1 H1 _ p1 x1 (.bl _)⟩
  | str b => exact ⟨_, _, _, _, _, rfl, .ty _, .base (.str b), kit_ty (kitB_all "str" (by decide) T hT), k _ F1 H1 _ p1 x1 (.bl _)⟩
  | lst f h r => exact ⟨_, _, _, _, _, rfl, .ty _, .base (.lst h), kit_ty (kitB_all "list" (by decide) T hT), k _ F1 H1 _ p1 x1 (.bl _)⟩
  | tup h r =>
    obtain ⟨fa, o, ho, ob, hd, rfl⟩ := h
    exact ⟨_, _, _, _, _, rfl, .ty _, .fTuple ho, kit_ty (kitB_all "tuple" (by decide) T hT), k _ F1 H1 _ p1 x1 (.bl _)⟩
  | _ => exact p1.elim⟩
def aIndexL (ea eb : AEx) : AEx := fun env P => ea env fun x => lQ x fun xs => eb env fun y => flatD y = true ∧ xs.all flatD = true ∧ ∃ j : Nat, xs[j]? = some y ∧ (∀ m, m < j → xs[m]? ≠ some y) ∧ P (.int (j : Nat))
theorem a_indexL (ha : AEg Pk W H0 ta ea) (hb : AExp W H0 tb eb) : AExp W H0 (tBM W.K "list" (rIndex W.K) ta (tCons tb tNil)) (aIndexL ea eb) := ⟨fun σ env F H Q P ok m q k => ha.run σ env F H _ _ ok m q fun d F1 H1 v p1 x1 r1 => by
  cases d with
  | lst xs =>
    obtain ⟨a, vs, rfl, hA, np, rr⟩ := r1.lst x1.ok
    refine ⟨.inl ⟨rfl, vs, SqL.of hA⟩, hb.run σ env F1 H1 _ _ x1.ok (m.ext ok x1) p1 fun e F2 H2 u p2 x2 r2 => ?_⟩
    obtain ⟨f1, f2, j, g1, g2, p2⟩ := p2
    have rr2 := rr.sub (x2.sub x1.ok)
    have hA2 := x2.kp a _ hA np
    obtain ⟨v, e1, rv⟩ := rr2.get g1
    refine ⟨a, vs, u, j, v, rfl, rfl, SqL.of hA2, flat_v r2 f1, flat_vs rr2 f2, e1, (eqV_flat r2 rv f1 f1).mpr rfl, fun m z' hm hz => ?_, k _ F2 H2 _ p2 (x1.trans ok x2) (.int _)⟩
    obtain ⟨d', e2, rd⟩ := rr2.getV hz
    have fd' : flatD d' = true := List.all_eq_true.mp f2 d' (List.mem_of_getElem? e2)
    refine Bool.eq_false_iff.mpr fun z => ?_
    have := (eqV_flat r2 rd f1 fd').mp z
    subst this
    exact g2 m hm e2
  | _ => exact p1.elim⟩
theorem RvAll.reverse {F : Addr → Prop} {H : Hp} : ∀ {vs : List V} {ds : List Dat}, RvAll W F H vs ds → RvAll W F H vs.reverse ds.reverse
  | _, _, .nil => .nil
  | _, _, .cons a r => by
    rw [List.reverse_cons, List.reverse_cons]
    exact (RvAll.reverse r).append (.cons a .nil)
def aRevT (ea : AEx) : AEx := fun env P => ea env fun x => tQ x fun xs => P (.tup xs.reverse)
def aRevL (ea : AEx) : AFr := fun env P => ea env fun x => lQ x fun xs => P xs.reverse
theorem i_ran2 {t : TA} {aa : AFr} (h : AArg W H0 2 t aa) : AIter W H0 (iRng2 t) (iRan aa) := ⟨fun σ env F H R P ok m q k => h.run σ env F H _ _ ok m q fun ds F1 H1 vs p1 x1 r1 l1 => by
  match ds, l1, p1, r1 with
  | [.int i, .int j], _, p1, .cons r (.cons r2 .nil) =>
    obtain ⟨p0, p1⟩ := p1
    cases r
    cases r2
    exact ⟨i, j, rfl, ⟨by omega, by omega, by omega, by omega⟩, k _ F1 H1 _ p1 x1 (it_ran i (j - i).toNat)⟩⟩
end
inductive Ce where
  | lst (xs : List Dat)
  | obj (k : Nat) (ds : List Dat)
  | dK (kvs : List (Key × Dat))
  | dT (ks : List (List Int)) (ds : List Dat)
  | xd (k : Nat) (ds : List Dat)
abbrev Sto := Addr → Option Ce
def Sto.put (M : Sto) (a : Addr) (c : Option Ce) : Sto := fun b => if b = a then c else M b
theorem Sto.put_s {M : Sto} {a : Addr} {c : Option Ce} : M.put a c a = c := if_pos rfl
theorem Sto.put_n {M : Sto} {a b : Addr} {c : Option Ce} (h : b ≠ a) : M.put a c b = M b := if_neg h
/-- the attribute of the errors of a class, by the class's number -/
def xcN : Nat → Option Str
  | 10 => some "what"
  | 11 => some "what"
  | 12 => some "what"
  | 13 => some "what"
  | 14 => some "at"
  | _ => none
def CeOk (W : Wd) (F : Addr → Prop) (H : Hp) (a : Addr) : Ce → Prop
  | .lst xs => ∃ vs, H a = some (.lst vs) ∧ RvAll W F H vs xs
  | .obj k ds => ∃ dx fs, H a = some (.ins (W.ca k) dx fs) ∧ fs.length ≤ ds.length ∧ RvFs W F H fs ((clsN k).take ds.length) ds ∧ ∀ m, m ∉ (clsN k).take ds.length → fs.lookup m = none
  | .dK kvs => ∃ us, H a = some (.dK us) ∧ RvKv W F H us kvs
  | .dT ks ds => ∃ xs vs, H a = some (dicT a xs) ∧ ks = xs.map (·.1) ∧ (∀ x ∈ xs, FzT W F H x.2.1 (x.1.map V.int)) ∧ Vals vs (xs.map (·.2.2)) ∧ RvAll W F H vs ds
  | .xd k ds => ∃ f v x, xcN k = some f ∧ H a = some (.xd [(f, v)]) ∧ ds = [x] ∧ Rv W F H v x
theorem CeOk.there {W : Wd} {F : Addr → Prop} {H : Hp} {a : Addr} : ∀ {c : Ce}, CeOk W F H a c → H a ≠ none
  | .lst _, ⟨_, h, _⟩ => fun z => by rw [z] at h; cases h
  | .obj _ _, ⟨_, _, h, _⟩ => fun z => by rw [z] at h; cases h
  | .dK _, ⟨_, h, _⟩ => fun z => by rw [z] at h; cases h
  | .dT _ _, ⟨_, _, h, _⟩ => fun z => by rw [z] at h; cases h
  | .xd _ _, ⟨_, _, _, _, h, _⟩ => fun z => by rw [z] at h; cases h
theorem CeOk.sub {W : Wd} {F F' : Addr → Prop} {H H' : Hp} {a : Addr} (s : Sub F H F' H') (e : H' a = H a) : ∀ {c : Ce}, CeOk W F H a c → CeOk W F' H' a c
  | .lst _, ⟨vs, h, r⟩ => ⟨vs, e.trans h, r.sub s⟩
  | .obj _ _, ⟨dx, fs, h, l, r, n⟩ => ⟨dx, fs, e.trans h, l, r.sub s, n⟩
  | .dK _, ⟨us, h, r⟩ => ⟨us, e.trans h, r.sub s⟩
  | .dT _ _, ⟨xs, vs, h, k, g, l, r⟩ => ⟨xs, vs, e.trans h, k, fun x hx => (g x hx).sub s, l, r.sub s⟩
  | .xd _ _, ⟨f, v, x, h0, h, h1, r⟩ => ⟨f, v, x, h0, e.trans h, h1, r.sub s⟩
/-- not the pool, nor its copy -/
def NPc (W : Wd) (a : Addr) : Prop := ∀ p c, W.po = some (p, c) → a ≠ p ∧ a ≠ c
theorem NPc.np {W : Wd} {a : Addr} (h : NPc W a) : NPo W a := fun p c e => (h p c e).1
structure SoOk (W : Wd) (F : Addr → Prop) (H : Hp) (M : Sto) : Prop where
  ok : Okk W F H
  at_ : ∀ a c, M a = some c → ¬ F a ∧ NPc W a ∧ CeOk W F H a c
structure Ex2 (W : Wd) (F : Addr → Prop) (H : Hp) (M : Sto) (F' : Addr → Prop) (H' : Hp) (M' : Sto) : Prop where
  up : ∀ a, F a → F' a
  dn : ∀ a, F' a → F a ∨ H a = none ∨ M a ≠ none
  kp : ∀ a o, H a = some o → NPo W a → M a = none → H' a = some o
  al : ∀ a, H a ≠ none → H' a ≠ none
  md : ∀ a, M' a ≠ none → M a ≠ none ∨ H a = none
  ok : SoOk W F' H' M'
section
variable {W : Wd} {F F' F2 : Addr → Prop} {H H' H2 : Hp} {M M' M2 : Sto}
theorem SoOk.nf (ok : SoOk W F H M) {a : Addr} (f : F a) : M a = none := by
  cases e : M a with
  | none => rfl
  | some c => exact absurd f (ok.at_ a c e).1
theorem SoOk.al (ok : SoOk W F H M) {a : Addr} (h : M a ≠ none) : H a ≠ none := by
  cases e : M a with
  | none => exact absurd e h
  | some c => exact (ok.at_ a c e).2.2.there
theorem SoOk.new (ok : SoOk W F H M) {a : Addr} (h : H a = none) : M a = none := by
  cases e : M a with
  | none => rfl
  | some c => exact absurd h (ok.al (by rw [e]; exact fun z => by cases z))
theorem Ex2.sub (ok : SoOk W F H M) (x : Ex2 W F H M F' H' M') : Sub F H F' H' := fun a f => by
  refine ⟨x.up a f, ?_⟩
  cases e : H a with
  | none => exact absurd e (ok.ok.tr a f)
  | some o => exact x.kp a o e (ok.ok.np f) (ok.nf f)
theorem Ex2.refl (ok : SoOk W F H M) : Ex2 W F H M F H M := ⟨fun _ f => f, fun _ f => .inl f, fun _ _ e _ _ => e, fun _ h => h, fun _ h => .inl h, ok⟩
theorem Ex2.there (x : Ex2 W F H M F' H' M') {a : Addr} (h : H' a = none) : H a = none := by
  cases e : H a with
  | none => rfl
  | some o => exact absurd h (x.al a (by rw [e]; exact fun z => by cases z))
theorem Ex2.trans (x : Ex2 W F H M F' H' M') (y : Ex2 W F' H' M' F2 H2 M2) : Ex2 W F H M F2 H2 M2 := by
  refine ⟨fun a f => y.up a (x.up a f), fun a f => ?_, fun a o e n m => ?_, fun a h => y.al a (x.al a h), fun a h => ?_, y.ok⟩
  · rcases y.dn a f with z | z | z
    · exact x.dn a z
    · exact .inr (.inl (x.there z))
    · rcases x.md a z with u | u
      · exact .inr (.inr u)
      · exact .inr (.inl u)
  · refine y.kp a o (x.kp a o e n m) n ?_
    cases e2 : M' a with
    | none => rfl
    | some c =>
      rcases x.md a (by rw [e2]; exact fun z => by cases z) with u | u
      · exact absurd m u
      · rw [u] at e
        cases e
  · rcases y.md a h with z | z
    · exact x.md a z
    · exact .inr (x.there z)
theorem Ext.ex2 (ok : SoOk W F H M) (x : Ext W F H F' H') : Ex2 W F H M F' H' M := by
  refine ⟨x.up, fun a f => ?_, fun a o e n _ => x.kp a o e n, fun a h z => h (x.there ok.ok z), fun a h => .inl h, x.ok, fun a c e => ?_⟩
  · rcases x.dn a f with z | z
    · exact .inl z
    · exact .inr (.inl z)
  · obtain ⟨h1, h2, h3⟩ := ok.at_ a c e
    have ha : H' a = H a := by
      cases e2 : H a with
      | none => exact absurd e2 h3.there
      | some o => exact x.kp a o e2 h2.np
    refine ⟨fun f => ?_, h2, h3.sub (x.sub ok.ok) ha⟩
    rcases x.dn a f with z | z
    · exact h1 z
    · exact h3.there z
/-- what stood apart from cells and data stays apart -/
theorem Ex2.own (x : Ex2 W F H M F' H' M') {a : Addr} {o : HO} (nf : ¬ F a) (hA : H a = some o) (m : M a = none) (np : NPc W a) : ¬ F' a ∧ H' a = some o ∧ M' a = none := by
  refine ⟨fun f => ?_, x.kp a o hA np.np m, ?_⟩
  · rcases x.dn a f with z | z | z
    · exact nf z
    · rw [z] at hA
      cases hA
    · exact z m
  · cases e2 : M' a with
    | none => rfl
    | some c =>
      rcases x.md a (by rw [e2]; exact fun z => by cases z) with u | u
      · exact absurd m u
      · rw [u] at hA
        cases hA
/-- the same store, the heap changed at one address that is neither data nor a cell -/
theorem SoOk.upd_own (ok : SoOk W F H M) {a : Addr} {o : HO} (nf : ¬ F a) (m : M a = none) (np : NPc W a) : SoOk W F (upd H a o) M := by
  have sb : Sub F H F (upd H a o) := fun c f => ⟨f, upd_ne (fun z => nf (by rw [← z]; exact f))⟩
  refine ⟨⟨fun c f => ?_, fun p c ep => ?_⟩, fun c e h => ?_⟩
  · rw [(sb c f).2]
    exact ok.ok.tr c f
  · obtain ⟨h1, h2, h3⟩ := ok.ok.po p c ep
    exact ⟨h1.mut (np p c ep).1 (np p c ep).2, h2, h3⟩
  · obtain ⟨h1, h2, h3⟩ := ok.at_ c e h
    have hne : c ≠ a := fun z => by rw [z, m] at h; cases h
    exact ⟨h1, h2, h3.sub sb (upd_ne hne)⟩
/-- a cell is changed -/
theorem SoOk.upd_cell (ok : SoOk W F H M) {a : Addr} {o : HO} {c0 c1 : Ce} (h0 : M a = some c0) (h1 : CeOk W F (upd H a o) a c1) : Ex2 W F H M F (upd H a o) (M.put a (some c1)) := by
  obtain ⟨nf, np, c3⟩ := ok.at_ a c0 h0
  have sb : Sub F H F (upd H a o) := fun c f => ⟨f, upd_ne (fun z => nf (by rw [← z]; exact f))⟩
  refine ⟨fun _ f => f, fun _ f => .inl f, fun b u e n m => ?_, fun b h => ?_, fun b h => ?_, ⟨fun c f => ?_, fun p c ep => ?_⟩, fun c e h => ?_⟩
  · have hne : b ≠ a := fun z => by rw [z, h0] at m; cases m
    rw [upd_ne hne]
    exact e
  · by_cases z : b = a
    · rw [z, upd_same]
      exact fun z => by cases z
    · rw [upd_ne z]
      exact h
  · by_cases z : b = a
    · rw [z, h0]
      exact .inl fun z => by cases z
    · rw [Sto.put_n z] at h
      exact .inl h
  · rw [(sb c f).2]
    exact ok.ok.tr c f
  · obtain ⟨h1, h2, h3⟩ := ok.ok.po p c ep
    exact ⟨h1.mut (np p c ep).1 (np p c ep).2, h2, h3⟩
  · by_cases z : c = a
    · subst z
      rw [Sto.put_s] at h
      cases h
      exact ⟨nf, np, h1⟩
    · rw [Sto.put_n z] at h
      obtain ⟨k1, k2, k3⟩ := ok.at_ c e h
      exact ⟨k1, k2, k3.sub sb (upd_ne z)⟩
/-- a new cell: its object stands, apart from all else -/
theorem SoOk.new_cell (ok : SoOk W F H M) {a : Addr} {c1 : Ce} (nf : ¬ F a) (m : M a = none) (np : NPc W a) (h1 : CeOk W F H a c1) : SoOk W F H (M.put a (some c1)) := by
  refine ⟨ok.ok, fun c e h => ?_⟩
  by_cases z : c = a
  · subst z
    rw [Sto.put_s] at h
    cases h
    exact ⟨nf, np, h1⟩
  · rw [Sto.put_n z] at h
    exact ok.at_ c e h
/-- an address that stands apart is settled -/
theorem SoOk.fz (ok : SoOk W F H M) {a : Addr} (h : H a ≠ none) (m : M a = none) (np : NPc W a) : SoOk W (fun b => F b ∨ b = a) H M := by
  have sb : Sub F H (fun b => F b ∨ b = a) H := fun _ f => ⟨.inl f, rfl⟩
  refine ⟨⟨fun c f => ?_, fun p c ep => ?_⟩, fun c e q => ?_⟩
  · rcases f with f | rfl
    · exact ok.ok.tr c f
    · exact h
  · obtain ⟨h1, h2, h3⟩ := ok.ok.po p c ep
    refine ⟨h1, fun f => ?_, fun f => ?_⟩
    · rcases f with f | f
      · exact h2 f
      · exact (np p c ep).1 f.symm
    · rcases f with f | f
      · exact h3 f
      · exact (np p c ep).2 f.symm
  · obtain ⟨k1, k2, k3⟩ := ok.at_ c e q
    refine ⟨fun f => ?_, k2, k3.sub sb rfl⟩
    rcases f with f | f
    · exact k1 f
    · rw [f, m] at q
      cases q
end
/-- the heap at the entry of a def, with the cells: what the def's own lists are not -/
def mask (H0 : Hp) (M : Sto) : Hp := fun a => match M a with
  | some _ => some (.lst [])
  | none => H0 a
theorem mask_none {H0 : Hp} {M : Sto} {a : Addr} : mask H0 M a = none ↔ M a = none ∧ H0 a = none := by
  unfold mask
  cases M a with
  | none => exact ⟨fun h => ⟨rfl, h⟩, fun h => h.2⟩
  | some c => exact ⟨fun h => (by cases h), fun h => (by cases h.1)⟩
abbrev Mt2 (W : Wd) (H0 : Hp) (F : Addr → Prop) (H : Hp) (M : Sto) (σ : L2.St) (env : List Sl) : Prop := Mt W (mask H0 M) F H σ env
theorem Mt.ex2 {W : Wd} {H0 : Hp} {F F' : Addr → Prop} {H H' : Hp} {M M' : Sto} {σ : L2.St} {env : List Sl} (ok : SoOk W F H M) (x : Ex2 W F H M F' H' M') (m : Mt2 W H0 F H M σ env) : Mt2 W H0 F' H' M' σ env :=
  ⟨m.ln, fun i s e => by
    obtain ⟨ov, e1, r⟩ := m.at_ i s e
    refine ⟨ov, e1, ?_⟩
    cases s with
    | u => trivial
    | d y =>
      obtain ⟨v, e, r⟩ := r
      exact ⟨v, e, r.sub (x.sub ok)⟩
    | o xs =>
      obtain ⟨a, vs, e, nf, n0, h, r, np⟩ := r
      obtain ⟨m0, n0⟩ := mask_none.mp n0
      obtain ⟨h1, h2, h3⟩ := x.own nf h m0 np
      exact ⟨a, vs, e, h1, mask_none.mpr ⟨h3, n0⟩, h2, r.sub (x.sub ok), np⟩, m.own⟩
abbrev XD := Nat → List Dat → Sto → Prop
/-- what an error carries: nothing, or a new dict with its one attribute -/
def XAt (W : Wd) (F : Addr → Prop) (H : Hp) (M : Sto) (k : Nat) (d : Option Addr) (ds : List Dat) : Prop := match xcN k with
  | none => d = none ∧ ds = []
  | some f => ∃ a v x, d = some a ∧ H a = some (.xd [(f, v)]) ∧ ds = [x] ∧ Rv W F H v x ∧ ¬ F a ∧ M a = none ∧ NPc W a
def XOk (W : Wd) (F : Addr → Prop) (H : Hp) (M : Sto) (E : XK) (X : XD) : Prop := ∀ k ds d F' H' M', Ex2 W F H M F' H' M' → XAt W F' H' M' k d ds → (∀ a, d = some a → H a = none) → X k ds M' → E (.ref (W.ca k)) d H'
theorem XOk.step {W : Wd} {F F' : Addr → Prop} {H H' : Hp} {M M' : Sto} {E : XK} {X : XD} (x : Ex2 W F H M F' H' M') (h : XOk W F H M E X) : XOk W F' H' M' E X := fun k ds d F2 H2 M2 y xa nw => h k ds d F2 H2 M2 (x.trans y) xa fun a e => x.there (nw a e)
/-- what becomes of an error, by the slots -/
abbrev XS := L2.St → XK
structure Cfg (W : Wd) (H0 : Hp) (E : XS) (F : Addr → Prop) (H : Hp) (M : Sto) (σ : L2.St) (env : List Sl) (X : XD) : Prop where
  st : SoOk W F H M
  m : Mt2 W H0 F H M σ env
  x : XOk W F H M (E σ) X
theorem Cfg.step {W : Wd} {H0 : Hp} {E : XS} {F F' : Addr → Prop} {H H' : Hp} {M M' : Sto} {σ : L2.St} {env : List Sl} {X : XD} (c : Cfg W H0 E F H M σ env X) (x : Ex2 W F H M F' H' M') : Cfg W H0 E F' H' M' σ env X :=
  ⟨x.ok, c.m.ex2 c.st x, c.x.step x⟩
abbrev BEx := List Sl → Sto → XD → (Dat → Sto → Prop) → Prop
abbrev BFr := List Sl → Sto → XD → (List Dat → Sto → Prop) → Prop
abbrev BTs := List Sl → Sto → XD → (Bool → Sto → Prop) → Prop
abbrev Rel2 := Wd → (Addr → Prop) → Hp → Sto → V → Dat → Prop
def Rv2 : Rel2 := fun W F H _ v d => Rv W F H v d
/-- read, not kept -/
inductive Pk2 (W : Wd) (F : Addr → Prop) (H : Hp) (M : Sto) : V → Dat → Prop
  | rv {v : V} {d : Dat} : Rv W F H v d → Pk2 W F H M v d
  | own {a : Addr} {vs : List V} {ds : List Dat} : H a = some (.lst vs) → NPo W a → M a = none → ¬ F a → RvAll W F H vs ds → Pk2 W F H M (.ref a) (.lst ds)
structure Pst2 (R : Rel2) : Prop where
  run : ∀ {W : Wd} {F F' : Addr → Prop} {H H' : Hp} {M M' : Sto} {v : V} {d : Dat}, SoOk W F H M → Ex2 W F H M F' H' M' → R W F H M v d → R W F' H' M' v d
theorem pst_pk2 : Pst2 Pk2 := ⟨fun {W F F' H H' M M' v d} k x r => by
  cases r with
  | rv r => exact .rv (r.sub (x.sub k))
  | @own a vs ds h n m nf r =>
    refine .own (x.kp _ _ h n m) n ?_ ?_ (r.sub (x.sub k))
    · cases e2 : M' a with
      | none => rfl
      | some c =>
        rcases x.md a (by rw [e2]; exact fun z => by cases z) with u | u
        · exact absurd m u
        · rw [u] at h
          cases h
    · intro f
      rcases x.dn a f with z | z | z
      · exact nf z
      · rw [z] at h
        cases h
      · exact z m⟩
/-- what a list's cell holds, read as it stands -/
def drc : Addr → Option Ce → Dat
  | _, some (.lst xs) => .lst xs
  | a, _ => .cell a
def drf (M : Sto) : Dat → Dat
  | .cell a => drc a (M a)
  | d => d
/-- how a kind of reading is used: as it is, or looked up -/
structure Cv (R : Rel2) (S : Rel) (D : Sto → Dat → Dat) : Prop where
  run : ∀ {W : Wd} {F : Addr → Prop} {H : Hp} {M : Sto} {v : V} {d : Dat}, SoOk W F H M → R W F H M v d → S W F H v (D M d)
def dId : Sto → Dat → Dat := fun _ d => d
theorem cv_rv : Cv Rv2 Rv dId := ⟨fun _ r => r⟩
theorem cv_pk : Cv Pk2 Pk drf := ⟨fun {W F H M v d} ok r => by
  cases r with
  | own h n m nf r => exact .own h n r
  | rv r =>
    cases r with
    | cell a =>
      show Pk W F H (.ref a) (drc a (M a))
      cases e : M a with
      | none => exact .rv (.cell a)
      | some c =>
        cases c with
        | lst xs =>
          obtain ⟨_, np, vs, h, r⟩ := ok.at_ a _ e
          exact .own h np.np r
        | obj k ds => exact .rv (.cell a)
        | dK kvs => exact .rv (.cell a)
        | dT ks ds => exact .rv (.cell a)
        | xd _ _ => exact .rv (.cell a)
    | non => exact .rv .non
    | bl b => exact .rv (.bl b)
    | int i => exact .rv (.int i)
    | str x => exact .rv (.str x)
    | pool h => exact .rv (.pool h)
    | lst f h r => exact .rv (.lst f h r)
    | tup h r => exact .rv (.tup h r)
    | obj f h r n => exact .rv (.obj f h r n)
    | dK f h r => exact .rv (.dK f h r)
    | dT f h k g l r => exact .rv (.dT f h k g l r)
    | rng f h => exact .rv (.rng f h)⟩
structure BEg (R : Rel2) (W : Wd) (H0 : Hp) (E : XS) (te : TE) (be : BEx) : Prop where
  run : ∀ (σ : L2.St) (env : List Sl) (F : Addr → Prop) (H : Hp) (M : Sto) (Q : VK) (P : Dat → Sto → Prop) (X : XD), Cfg W H0 E F H M σ env X → be env M X P → (∀ d F' H' v M', P d M' → Ex2 W F H M F' H' M' → R W F' H' M' v d → Q v H') → te σ H Q
abbrev BExp : Wd → Hp → XS → TE → BEx → Prop := BEg Rv2
structure BFrs (W : Wd) (H0 : Hp) (E : XS) (te : TE) (be : BFr) : Prop where
  run : ∀ (σ : L2.St) (env : List Sl) (F : Addr → Prop) (H : Hp) (M : Sto) (Q : VK) (P : List Dat → Sto → Prop) (X : XD), Cfg W H0 E F H M σ env X → be env M X P →
    (∀ ds F' H' a vs M', P ds M' → Ex2 W F H M F' H' M' → H a = none → ¬ F' a → M' a = none → H' a = some (.lst vs) → RvAll W F' H' vs ds → Q (.ref a) H') → te σ H Q
structure BTst (W : Wd) (H0 : Hp) (E : XS) (tt : TT) (bt : BTs) : Prop where
  run : ∀ (σ : L2.St) (env : List Sl) (F : Addr → Prop) (H : Hp) (M : Sto) (Q : Bool → Hp → Prop) (P : Bool → Sto → Prop) (X : XD), Cfg W H0 E F H M σ env X → bt env M X P → (∀ b F' H' M', P b M' → Ex2 W F H M F' H' M' → Q b H') → tt σ H Q
structure BArg (W : Wd) (H0 : Hp) (E : XS) (n : Nat) (ta : TA) (ba : BFr) : Prop where
  run : ∀ (σ : L2.St) (env : List Sl) (F : Addr → Prop) (H : Hp) (M : Sto) (Q : List V → Hp → Prop) (P : List Dat → Sto → Prop) (X : XD), Cfg W H0 E F H M σ env X → ba env M X P →
    (∀ ds F' H' vs M', P ds M' → Ex2 W F H M F' H' M' → RvAll W F' H' vs ds → ds.length = n → Q vs H') → ta σ H Q
structure BIter (W : Wd) (H0 : Hp) (E : XS) (wi : TI) (bi : BFr) : Prop where
  run : ∀ (σ : L2.St) (env : List Sl) (F : Addr → Prop) (H : Hp) (M : Sto) (R : It → Hp → Prop) (P : List Dat → Sto → Prop) (X : XD), Cfg W H0 E F H M σ env X → bi env M X P →
    (∀ ds F' H' J M', P ds M' → Ex2 W F H M F' H' M' → ItOk W J F' H' ds → R J H') → wi σ H R
def upE (ae : AEx) : BEx := fun env M _ P => ae env fun d => P d M
def upF (ae : AFr) : BFr := fun env M _ P => ae env fun d => P d M
def upT (at_ : ATs) : BTs := fun env M _ P => at_ env fun b => P b M
section
variable {W : Wd} {H0 : Hp} {E : XS} {te ta tb tc : TE} {ae : AEx} {be ea eb ec : BEx} {tt t u : TT} {bt bu : BTs}
theorem b_up (h : ∀ H0, AExp W H0 te ae) : BExp W H0 E te (upE ae) := ⟨fun σ env F H M Q P X c q k => (h _).run σ env F H Q _ c.st.ok c.m q fun d F' H' v p x r => k d F' H' v M p (x.ex2 c.st) r⟩
theorem b_upF {af : AFr} (h : ∀ H0, AFrs W H0 te af) : BFrs W H0 E te (upF af) := ⟨fun σ env F H M Q P X c q k => (h _).run σ env F H Q _ c.st.ok c.m q fun ds F' H' a vs p x n nf ha r => k ds F' H' a vs M p (x.ex2 c.st) n nf (c.st.new n) ha r⟩
theorem b_upT {at_ : ATs} (h : ∀ H0, ATst W H0 tt at_) : BTst W H0 E tt (upT at_) := ⟨fun σ env F H M Q P X c q k => (h _).run σ env F H Q _ c.st.ok c.m q fun b F' H' p x => k b F' H' M p (x.ex2 c.st)⟩
theorem b_upA {n : Nat} {t : TA} {aa : AFr} (h : ∀ H0, AArg W H0 n t aa) : BArg W H0 E n t (upF aa) := ⟨fun σ env F H M Q P X c q k => (h _).run σ env F H Q _ c.st.ok c.m q fun ds F' H' vs p x r l => k ds F' H' vs M p (x.ex2 c.st) r l⟩
theorem b_upI {wi : TI} {ai : AFr} (h : ∀ H0, AIter W H0 wi ai) : BIter W H0 E wi (upF ai) := ⟨fun σ env F H M R P X c q k => (h _).run σ env F H R _ c.st.ok c.m q fun ds F' H' J p x r => k ds F' H' J M p (x.ex2 c.st) r⟩
/-- a value that is only looked at -/
theorem b_pk (h : BExp W H0 E te be) : BEg Pk2 W H0 E te be := ⟨fun σ env F H M Q P X c q k => h.run σ env F H M Q P X c q fun d F' H' v M' p x r => k d F' H' v M' p x (.rv r)⟩
theorem npc_new {F : Addr → Prop} {H : Hp} (ok : Okk W F H) {a : Addr} (n : H a = none) : NPc W a := ok.pne n
/-- a new list, settled at once -/
def bFz (be : BFr) : BEx := fun env M X P => be env M X fun ds M' => P (.lst ds) M'
theorem b_fz {bf : BFr} (h : BFrs W H0 E te bf) : BExp W H0 E te (bFz bf) := ⟨fun σ env F H M Q P X c q k => h.run σ env F H M Q _ X c q fun ds F' H' a vs M' p x n nf m ha r => by
  have np := npc_new c.st.ok n
  have hn : H' a ≠ none := by rw [ha]; exact fun z => by cases z
  refine k (.lst ds) (fun b => F' b ∨ b = a) H' (.ref a) M' p ⟨fun b f => .inl (x.up b f), fun b f => ?_, x.kp, x.al, x.md, x.ok.fz hn m np⟩ (.lst (.inr rfl) ha (r.sub (sub_fz a)))
  rcases f with f | rfl
  · exact x.dn b f
  · exact .inr (.inl n)⟩
/-- a new list, from now on a cell -/
def bCel (be : BFr) : BEx := fun env M X P => be env M X fun ds M' => ∀ a, M' a = none → P (.cell a) (M'.put a (some (.lst ds)))
theorem b_cel {bf : BFr} (h : BFrs W H0 E te bf) : BExp W H0 E te (bCel bf) := ⟨fun σ env F H M Q P X c q k => h.run σ env F H M Q _ X c q fun ds F' H' a vs M' p x n nf m ha r => by
  have np := npc_new c.st.ok n
  refine k (.cell a) F' H' (.ref a) _ (p a m) ⟨x.up, x.dn, x.kp, x.al, fun b h => ?_, x.ok.new_cell nf m np ⟨vs, ha, r⟩⟩ (.cell a)
  by_cases z : b = a
  · rw [z]
    exact .inr n
  · rw [Sto.put_n z] at h
    exact x.md b h⟩
def b2 (D1 D2 : Sto → Dat → Dat) (f : Dat → Dat → (Dat → Prop) → Prop) (ea eb : BEx) : BEx := fun env M X P => ea env M X fun x M1 => eb env M1 X fun y M2 => f (D1 M2 x) (D2 M2 y) fun z => P z M2
theorem b_op {R1 R2 : Rel2} {S1 S2 : Rel} {D1 D2 : Sto → Dat → Dat} {r : L2.R2} {f : Dat → Dat → (Dat → Prop) → Prop} (pr : Pst2 R1) (c1 : Cv R1 S1 D1) (c2 : Cv R2 S2 D2) (hr : ROk W S1 S2 Rv r f) (ha : BEg R1 W H0 E ta ea) (hb : BEg R2 W H0 E tb eb) : BExp W H0 E (tOp r ta tb) (b2 D1 D2 f ea eb) :=
  ⟨fun σ env F H M Q P X c q k => ha.run σ env F H M _ _ X c q fun d F1 H1 v M1 p1 x1 r1 => hb.run σ env F1 H1 M1 _ _ X (c.step x1) p1 fun e F2 H2 u M2 p2 x2 r2 =>
    hr F2 H2 v u _ _ Q _ x2.ok.ok (c1.run x2.ok (pr.run x1.ok x2 r1)) (c2.run x2.ok r2) p2 fun z F3 H3 w p3 x3 r3 => k z F3 H3 w M2 p3 ((x1.trans x2).trans (x3.ex2 x2.ok)) r3⟩
def b2F (D1 D2 : Sto → Dat → Dat) (f : Dat → Dat → (List Dat → Prop) → Prop) (ea eb : BEx) : BFr := fun env M X P => ea env M X fun x M1 => eb env M1 X fun y M2 => f (D1 M2 x) (D2 M2 y) fun z => P z M2
def b1 (D : Sto → Dat → Dat) (f : Dat → (Dat → Prop) → Prop) (ea : BEx) : BEx := fun env M X P => ea env M X fun x M1 => f (D M1 x) fun z => P z M1
def b1F (D : Sto → Dat → Dat) (f : Dat → (List Dat → Prop) → Prop) (ea : BEx) : BFr := fun env M X P => ea env M X fun x M1 => f (D M1 x) fun z => P z M1
def bNil : BFr := fun _ M _ P => P [] M
def bCons (ea : BEx) (er : BFr) : BFr := fun env M X P => ea env M X fun x M1 => er env M1 X fun xs M2 => P (x :: xs) M2
theorem b_nil : BArg W H0 E 0 tNil bNil := ⟨fun _ _ F H M _ _ _ c h k => k [] F H [] M h (.refl c.st) .nil rfl⟩
theorem b_cons {n : Nat} {tr : TA} {er : BFr} (ha : BExp W H0 E ta ea) (hr : BArg W H0 E n tr er) : BArg W H0 E (n + 1) (tCons ta tr) (bCons ea er) :=
  ⟨fun σ env F H M Q P X c q k => ha.run σ env F H M _ _ X c q fun d F1 H1 v M1 p1 x1 r1 => hr.run σ env F1 H1 M1 _ _ X (c.step x1) p1 fun ds F2 H2 vs M2 p2 x2 r2 l2 =>
    k (d :: ds) F2 H2 (v :: vs) M2 p2 (x1.trans x2) (.cons (Rv.sub (x2.sub x1.ok) r1) r2) (congrArg (· + 1) l2)⟩
def bTup (ba : BFr) : BEx := fun env M X P => ba env M X fun ds M' => P (.tup ds) M'
theorem b_tup {n : Nat} {tr : TA} {ba : BFr} (h : BArg W H0 E n tr ba) (hn : n ≤ 100000 := by decide) : BExp W H0 E (tTupF tr) (bTup ba) :=
  ⟨fun σ env F H M Q P X c q k => h.run σ env F H M _ _ X c q fun ds F1 H1 vs M1 p1 x1 r1 l1 => ⟨Nat.le_of_lt (len_size (by rw [r1.length]; omega)), fun a o n tp => by
    have x2 : Ext W F1 H1 _ _ := Ext.new (o := o) x1.ok.ok n
    exact k (.tup ds) _ _ _ M1 p1 (x1.trans (x2.ex2 x1.ok)) (.tup ⟨.inr rfl, o, upd_same, tp⟩ (r1.sub (x2.sub x1.ok.ok)))⟩⟩
theorem b_lst {n : Nat} {tr : TA} {ba : BFr} (h : BArg W H0 E n tr ba) (hn : n ≤ 100000 := by decide) : BFrs W H0 E (tLst tr) ba :=
  ⟨fun σ env F H M Q P X c q k => h.run σ env F H M _ _ X c q fun ds F1 H1 vs M1 p1 x1 r1 l1 => ⟨Nat.le_of_lt (len_size (by rw [r1.length]; omega)), fun a n => by
    have x2 : Ext W F1 H1 _ _ := Ext.lay (o := .lst vs) x1.ok.ok n
    exact k ds _ _ a vs M1 p1 (x1.trans (x2.ex2 x1.ok)) (x1.there n) (fun f => x1.ok.ok.tr a f n) (x1.ok.new n) upd_same (r1.sub (x2.sub x1.ok.ok))⟩⟩
def bTest (ea : BEx) : BTs := fun env M X P => ea env M X fun x M1 => bQ x fun b => P b M1
def bNot (a : BTs) : BTs := fun env M X P => a env M X fun b M1 => P (!b) M1
def bAnd (a c : BTs) : BTs := fun env M X P => a env M X fun b M1 => two b (c env M1 X P) (P false M1)
def bOr (a c : BTs) : BTs := fun env M X P => a env M X fun b M1 => two b (P true M1) (c env M1 X P)
def bAndV (ea eb : BEx) : BEx := fun env M X P => ea env M X fun x M1 => bQ x fun b => two b (eb env M1 X P) (P (.bl false) M1)
def bOrV (ea eb : BEx) : BEx := fun env M X P => ea env M X fun x M1 => bQ x fun b => two b (P (.bl true) M1) (eb env M1 X P)
def bNotV (ea : BEx) : BEx := fun env M X P => ea env M X fun x M1 => bQ x fun b => P (.bl (!b)) M1
def bIf (c : BTs) (ea eb : BEx) : BEx := fun env M X P => c env M X fun b M1 => two b (ea env M1 X P) (eb env M1 X P)
end
def bCall (asp : ASp) (ba : BFr) : BEx := fun env M X P => ba env M X fun ds M' => asp ds fun d => P d M'
def bCallF (asp : ASpF) (ba : BFr) : BFr := fun env M X P => ba env M X fun ds M' => asp ds fun d => P d M'
def X0 : XD := fun _ _ _ => False
theorem XOk.zero {W : Wd} {F : Addr → Prop} {H : Hp} {M : Sto} {E : XK} : XOk W F H M E X0 := fun _ _ _ _ _ _ _ _ _ h => h.elim
theorem Cfg.zero {W : Wd} {H0 : Hp} {E : XS} {F : Addr → Prop} {H : Hp} {M : Sto} {σ : L2.St} {env : List Sl} {X : XD} (c : Cfg W H0 E F H M σ env X) : Cfg W H0 E F H M σ env X0 := ⟨c.st, c.m, .zero⟩
def lcB (el : Dat → Sto → (Option Dat → Sto → Prop) → Prop) (P : List Dat → Sto → Prop) : List Dat → List Dat → Sto → Prop
  | [], acc, M => P acc M
  | d :: ds, acc, M => el d M fun o M' => match o with
    | some y => lcB el P ds (acc ++ [y]) M'
    | none => lcB el P ds acc M'
def elB (ag : ATg) (bt : BTs) (eb : BEx) (env : List Sl) : Dat → Sto → (Option Dat → Sto → Prop) → Prop := fun d M P => ag d env fun env2 => bt env2 M X0 fun b M1 => two b (eb env2 M1 X0 fun y M2 => P (some y) M2) (P none M1)
def bLc (bi : BFr) (ag : ATg) (bt : BTs) (eb : BEx) (vs : List Nat) : BFr := fun env M X P => bi env M X fun ds M1 => ds.length ≤ 100000 ∧ lcB (elB ag bt eb (wipeA env vs)) P ds [] M1
def bYes : BTs := fun _ M _ P => P true M
structure BEnds where
  nx : List Sl → Sto → Prop
  rt : Dat → Sto → Prop
  bk : List Sl → Sto → Prop := fun _ _ => False
  ct : List Sl → Sto → Prop := fun _ _ => False
  ex : List Sl → XD := fun _ => X0
abbrev BSt := BEnds → List Sl → Sto → Prop
structure Bse2 (W : Wd) (F0 : Addr → Prop) (H0 : Hp) (M0 : Sto) (F1 : Addr → Prop) (H1 : Hp) (F : Addr → Prop) (H : Hp) (M : Sto) : Prop where
  ex : Ex2 W F0 H0 M0 F H M
  sb : Sub F1 H1 F H
structure EndsOk2 (W : Wd) (E : XS) (F0 : Addr → Prop) (H0 : Hp) (M0 : Sto) (F1 : Addr → Prop) (H1 : Hp) (De : Ends) (Da : BEnds) : Prop where
  nx : ∀ σ env F H M, Bse2 W F0 H0 M0 F1 H1 F H M → Mt2 W H0 F H M σ env → Da.nx env M → De.nx σ H
  rt : ∀ v d F H M, Bse2 W F0 H0 M0 F1 H1 F H M → Rv W F H v d → Da.rt d M → De.rt v H
  bk : ∀ σ env F H M, Bse2 W F0 H0 M0 F1 H1 F H M → Mt2 W H0 F H M σ env → Da.bk env M → De.bk σ H
  ct : ∀ σ env F H M, Bse2 W F0 H0 M0 F1 H1 F H M → Mt2 W H0 F H M σ env → Da.ct env M → De.ct σ H
  ex : ∀ σ env F H M, Bse2 W F0 H0 M0 F1 H1 F H M → Mt2 W H0 F H M σ env → XOk W F H M (E σ) (Da.ex env)
/-- where a statement begins -/
structure BCf (W : Wd) (F0 : Addr → Prop) (H0 : Hp) (M0 : Sto) (F1 : Addr → Prop) (H1 : Hp) (F : Addr → Prop) (H : Hp) (M : Sto) (σ : L2.St) (env : List Sl) : Prop where
  b : Bse2 W F0 H0 M0 F1 H1 F H M
  m : Mt2 W H0 F H M σ env
structure BStm (W : Wd) (E : XS) (ts : TS) (bs : BSt) : Prop where
  run : ∀ (F0 : Addr → Prop) (H0 : Hp) (M0 : Sto) (F1 : Addr → Prop) (H1 : Hp) (De : Ends) (Da : BEnds) (σ : L2.St) (env : List Sl) (F : Addr → Prop) (H : Hp) (M : Sto), BCf W F0 H0 M0 F1 H1 F H M σ env → EndsOk2 W E F0 H0 M0 F1 H1 De Da → bs Da env M → ts De σ H
section
variable {W : Wd} {E : XS} {F0 F1 F F' : Addr → Prop} {H0 H1 H H' : Hp} {M0 M M' : Sto} {σ : L2.St} {env : List Sl}
theorem BCf.cfg {De : Ends} {Da : BEnds} (c : BCf W F0 H0 M0 F1 H1 F H M σ env) (k : EndsOk2 W E F0 H0 M0 F1 H1 De Da) : Cfg W H0 E F H M σ env (Da.ex env) := ⟨c.b.ex.ok, c.m, k.ex σ env F H M c.b c.m⟩
theorem BCf.step (c : BCf W F0 H0 M0 F1 H1 F H M σ env) (x : Ex2 W F H M F' H' M') : BCf W F0 H0 M0 F1 H1 F' H' M' σ env := ⟨⟨c.b.ex.trans x, c.b.sb.trans (x.sub c.b.ex.ok)⟩, c.m.ex2 c.b.ex.ok x⟩
theorem EndsOk2.mono {De : Ends} {Da : BEnds} (s : Sub F1 H1 F H) (k : EndsOk2 W E F0 H0 M0 F1 H1 De Da) : EndsOk2 W E F0 H0 M0 F H De Da :=
  ⟨fun σ env F H M b => k.nx σ env F H M ⟨b.ex, s.trans b.sb⟩, fun v d F H M b => k.rt v d F H M ⟨b.ex, s.trans b.sb⟩, fun σ env F H M b => k.bk σ env F H M ⟨b.ex, s.trans b.sb⟩, fun σ env F H M b => k.ct σ env F H M ⟨b.ex, s.trans b.sb⟩, fun σ env F H M b => k.ex σ env F H M ⟨b.ex, s.trans b.sb⟩⟩
end
def zNext : BSt := fun D env M => D.nx env M
def zSeq (a b : BSt) : BSt := fun D env M => a { D with nx := b D } env M
def zCut (a b : BSt) : BSt := fun D env M => ∃ Mid : List Sl → Sto → Prop, a { D with nx := Mid } env M ∧ ∀ env' M', Mid env' M' → b D env' M'
def zIf (c : BTs) (a b : BSt) : BSt := fun D env M => c env M (D.ex env) fun t M1 => two t (a D env M1) (b D env M1)
def zAsg (ea : BEx) (g : ATg) : BSt := fun D env M => ea env M (D.ex env) fun d M1 => g d env fun env2 => D.nx env2 M1
def zSetO (i : Nat) (af : BFr) : BSt := fun D env M => af env M (D.ex env) fun ds M1 => D.nx (env.set i (.o ds)) M1
def zRet (ea : BEx) : BSt := fun D env M => ea env M (D.ex env) D.rt
def zRetN : BSt := fun D _ M => D.rt .non M
def zDrop (ea : BEx) : BSt := fun D env M => ea env M (D.ex env) fun _ M1 => D.nx env M1
def zPar (i j : Nat) (ba : BFr) : BSt := fun D env M => ba env M (D.ex env) fun ds M1 => match ds with
  | [x, y] => D.nx ((env.set i (.d x)).set j (.d y)) M1
  | _ => False
def zApp (i : Nat) (ea : BEx) : BSt := fun D env M => oQ2 (dAt env i) fun xs => xs.length < 100000 ∧ ea env M (D.ex env) fun d M1 => D.nx (env.set i (.o (xs ++ [d]))) M1
def zFz (i : Nat) (a : BSt) : BSt := fun D env M => oQ2 (dAt env i) fun xs => a D (env.set i (.d (.lst xs))) M
def zAug (i : Nat) (ea : BEx) (f : Dat → Dat → (Dat → Prop) → Prop) : BSt := fun D env M => dQ (dAt env i) fun x => ea env M (D.ex env) fun y M1 => f x y fun z => D.nx (env.set i (.d z)) M1
def forB (g : ATg) (b : BSt) (D : BEnds) : List Dat → List Sl → Sto → Prop
  | [], env, M => D.nx env M
  | d :: ds, env, M => g d env fun env2 => b { D with nx := forB g b D ds, ct := forB g b D ds, bk := D.nx } env2 M
def zFor (bi : BFr) (g : ATg) (b : BSt) : BSt := fun D env M => bi env M (D.ex env) fun ds M1 => forB g b D ds env M1
/-- what a list's cell holds -/
def cQ (o : Option Ce) (P : List Dat → Prop) : Prop := match o with
  | some (.lst xs) => P xs
  | _ => False
def ceQ : Dat → (Addr → Prop) → Prop
  | .cell a, P => P a
  | _, _ => False
def inQ : Dat → (Int → Prop) → Prop
  | .int j, P => P j
  | _, _ => False
/-- x.append(e), x a cell -/
def zAppC (eo ea : BEx) : BSt := fun D env M => eo env M (D.ex env) fun x M1 => ceQ x fun a => cQ (M1 a) fun _ => ea env M1 (D.ex env) fun d M2 => cQ (M2 a) fun ys => ys.length < 100000 ∧ D.nx env (M2.put a (some (.lst (ys ++ [d]))))
/-- x[i] = e, x a cell -/
def zPutC (ev eo ei : BEx) : BSt := fun D env M => ev env M (D.ex env) fun d M1 => eo env M1 (D.ex env) fun x M2 => ei env M2 (D.ex env) fun i M3 => ceQ x fun a => inQ i fun j => cQ (M3 a) fun ys => ∃ k, ixN ys.length j = some k ∧ D.nx env (M3.put a (some (.lst (ys.set k d))))
/-- x[i] = e, x a list of the def's own -/
def zPutO (s : Nat) (ev ei : BEx) : BSt := fun D env M => oQ2 (dAt env s) fun ys => ev env M (D.ex env) fun d M1 => ei env M1 (D.ex env) fun i M2 => inQ i fun j => ∃ k, ixN ys.length j = some k ∧ D.nx (env.set s (.o (ys.set k d))) M2
section
variable {W : Wd} {E : XS} {ts tu : TS} {bs bu : BSt}
theorem z_next : BStm W E tNext zNext := ⟨fun F0 H0 M0 F1 H1 De Da σ env F H M c k h => k.nx σ env F H M c.b c.m h⟩
theorem z_seq (h1 : BStm W E ts bs) (h2 : BStm W E tu bu) : BStm W E (tSeq ts tu) (zSeq bs bu) := ⟨fun F0 H0 M0 F1 H1 De Da σ env F H M c k h =>
  h1.run F0 H0 M0 F1 H1 { De with nx := tu De } { Da with nx := bu Da } σ env F H M c ⟨fun σ env F H M b m h => h2.run F0 H0 M0 F1 H1 De Da σ env F H M ⟨b, m⟩ k h, k.rt, k.bk, k.ct, k.ex⟩ h⟩
theorem z_cut (h1 : BStm W E ts bs) (h2 : BStm W E tu bu) : BStm W E (C8.tCut ts tu) (zCut bs bu) := ⟨fun F0 H0 M0 F1 H1 De Da σ env F H M c k ⟨Mid, h, q⟩ =>
  ⟨fun σ' H' => ∃ env' F' M', BCf W F0 H0 M0 F1 H1 F' H' M' σ' env' ∧ Mid env' M', h1.run F0 H0 M0 F1 H1 _ { Da with nx := Mid } σ env F H M c ⟨fun σ env F H M b m h => ⟨env, F, M, ⟨b, m⟩, h⟩, k.rt, k.bk, k.ct, k.ex⟩ h,
    fun σ' H' ⟨env', F', M', c', hm⟩ => h2.run F0 H0 M0 F1 H1 De Da σ' env' F' H' M' c' k (q env' M' hm)⟩⟩
theorem z_if {t : TT} {cb : BTs} (ht : ∀ H0, BTst W H0 E t cb) (h1 : BStm W E ts bs) (h2 : BStm W E tu bu) : BStm W E (tIfS t ts tu) (zIf cb bs bu) := ⟨fun F0 H0 M0 F1 H1 De Da σ env F H M c k h =>
  (ht H0).run σ env F H M _ _ _ (c.cfg k) h fun t F' H' M' p x => by
    cases t with
    | true =>
      rw [if_pos rfl]
      exact h1.run F0 H0 M0 F1 H1 De Da σ env F' H' M' (c.step x) k p
    | false =>
      rw [if_neg Bool.false_ne_true]
      exact h2.run F0 H0 M0 F1 H1 De Da σ env F' H' M' (c.step x) k p⟩
theorem z_asg {te : TE} {ea : BEx} {g : TG} {ag : ATg} {vs : List Nat} (he : ∀ H0, BExp W H0 E te ea) (hg : ∀ H0, ATgt W H0 vs g ag) : BStm W E (tAsg te g) (zAsg ea ag) := ⟨fun F0 H0 M0 F1 H1 De Da σ env F H M c k h =>
  (he H0).run σ env F H M _ _ _ (c.cfg k) h fun d F' H' v M' p x r => (hg _).run v d σ env F' H' _ _ x.ok.ok (c.step x).m r p fun env' σ' p' m' _ => k.nx σ' env' F' H' M' (c.step x).b m' p'⟩
theorem z_set {te : TE} {ea : BEx} {i : Nat} (he : ∀ H0, BExp W H0 E te ea) : BStm W E (tAsg te (gName i)) (zAsg ea (gA i)) := z_asg (vs := [i]) he fun _ => g_name List.mem_cons_self
theorem z_ret {te : TE} {ea : BEx} (he : ∀ H0, BExp W H0 E te ea) : BStm W E (tRet te) (zRet ea) := ⟨fun F0 H0 M0 F1 H1 De Da σ env F H M c k h =>
  (he H0).run σ env F H M _ _ _ (c.cfg k) h fun d F' H' v M' p x r => k.rt v d F' H' M' (c.step x).b r p⟩
theorem z_drop {te : TE} {ea : BEx} (he : ∀ H0, BExp W H0 E te ea) : BStm W E (tDrop te) (zDrop ea) := ⟨fun F0 H0 M0 F1 H1 De Da σ env F H M c k h =>
  (he H0).run σ env F H M _ _ _ (c.cfg k) h fun d F' H' v M' p x r => k.nx σ env F' H' M' (c.step x).b (c.step x).m p⟩
theorem z_setO {te : TE} {af : BFr} {i : Nat} (he : ∀ H0, BFrs W H0 E te af) : BStm W E (tAsg te (gName i)) (zSetO i af) := ⟨fun F0 H0 M0 F1 H1 De Da σ env F H M c k h =>
  (he H0).run σ env F H M _ _ _ (c.cfg k) h fun ds F' H' a vs M' p x n nf m hA r => by
    refine k.nx _ _ F' H' M' (c.step x).b ((c.step x).m.setO i nf (mask_none.mpr ⟨m, c.b.ex.there n⟩) hA r (c.b.ex.ok.ok.pne n) fun j xs hj e z => ?_) p
    obtain ⟨ov, e1, b', ws, e2, _, _, hb, _⟩ := c.m.at_ j _ e
    rw [z] at e1
    cases e1
    cases e2
    rw [n] at hb
    cases hb⟩
/-- a list of the def's own is changed -/
theorem z_own {F0 F1 F : Addr → Prop} {H0 H1 H : Hp} {M0 M : Sto} {σ : L2.St} {env : List Sl} (c : BCf W F0 H0 M0 F1 H1 F H M σ env) {i : Nat} {xs ys : List Dat} {a : Addr} {ws : List V} (e : env[i]? = some (.o xs)) (es : σ[i]? = some (some (.ref a)))
    (nf : ¬ F a) (m0 : M a = none) (n0 : H0 a = none) (np : NPc W a) (r : RvAll W F H ws ys) : BCf W F0 H0 M0 F1 H1 F (upd H a (.lst ws)) M σ (env.set i (.o ys)) := by
  have sb : Sub F H F (upd H a (.lst ws)) := fun c f => ⟨f, upd_ne (fun z => nf (by rw [← z]; exact f))⟩
  have m := c.m
  refine ⟨⟨⟨c.b.ex.up, c.b.ex.dn, fun b o hc npc hm => ?_, fun b h => ?_, c.b.ex.md, c.b.ex.ok.upd_own nf m0 np⟩, c.b.sb.trans sb⟩, ?_⟩
  · rw [upd_ne (ne_of_none hc n0)]
    exact c.b.ex.kp b o hc npc hm
  · by_cases z : b = a
    · rw [z, upd_same]
      exact fun z => by cases z
    · rw [upd_ne z]
      exact c.b.ex.al b h
  · have hl : i < env.length := (List.getElem?_eq_some_iff.mp e).1
    refine ⟨by rw [List.length_set, m.ln], fun j s ej => ?_, fun j k us vs c e1 e2 e3 e4 => ?_⟩
    · by_cases h : j = i
      · subst h
        rw [List.getElem?_set_self hl] at ej
        cases ej
        exact ⟨_, es, a, ws, rfl, nf, mask_none.mpr ⟨m0, n0⟩, upd_same, r.sub sb, np⟩
      · rw [List.getElem?_set_ne (Ne.symm h)] at ej
        obtain ⟨ov, eo, so⟩ := m.at_ j s ej
        refine ⟨ov, eo, ?_⟩
        cases s with
        | u => trivial
        | d x =>
          obtain ⟨v, ev, rv⟩ := so
          exact ⟨v, ev, rv.sub sb⟩
        | o us =>
          obtain ⟨c, vs, ec, nfc, n0c, hc, rc, npc⟩ := so
          subst ec
          have hca : c ≠ a := fun z => h (m.own j i us xs c ej e eo (by rw [z]; exact es))
          exact ⟨c, vs, rfl, nfc, n0c, by rw [upd_ne hca]; exact hc, rc.sub sb, npc⟩
    · have old : ∀ {j : Nat} {us : List Dat}, (env.set i (.o ys))[j]? = some (.o us) → ∃ us', env[j]? = some (.o us') := fun {j us} ej => by
        by_cases h : j = i
        · subst h
          exact ⟨_, e⟩
        · rw [List.getElem?_set_ne (Ne.symm h)] at ej
          exact ⟨_, ej⟩
      obtain ⟨_, e1⟩ := old e1
      obtain ⟨_, e2⟩ := old e2
      exact m.own j k _ _ c e1 e2 e3 e4
theorem z_app {te : TE} {ea : BEx} {i : Nat} (he : ∀ H0, BExp W H0 E te ea) : BStm W E (tDrop (tBM W.K "list" rAppend (tVar i) (tCons te tNil))) (zApp i ea) := ⟨fun F0 H0 M0 F1 H1 De Da σ env F H M c k h => by
  obtain ⟨xs, a, vs, ⟨hl, h⟩, e, es, nf, n0, hA, r, np⟩ := own_at c.m h
  obtain ⟨m0, n0⟩ := mask_none.mp n0
  refine ⟨_, es, .inl ⟨rfl, vs, SqL.of hA⟩, ?_⟩
  refine (he H0).run σ env F H M _ _ _ (c.cfg k) h fun d F' H' v M' p x rv => ?_
  obtain ⟨nf', hA', m'⟩ := x.own nf hA m0 np
  have r' := r.sub (x.sub c.b.ex.ok)
  have c2 := z_own (c.step x) e es nf' m' n0 np (r'.append (.cons (show Rv W F' H' v d from rv) .nil))
  exact ⟨a, vs, v, rfl, rfl, hA', len_size (by rw [r.length]; omega), k.nx _ _ _ _ M' c2.b c2.m p⟩⟩
theorem z_fz {i : Nat} (h1 : BStm W E ts bs) : BStm W E ts (zFz i bs) := ⟨fun F0 H0 M0 F1 H1 De Da σ env F H M c k h => by
  obtain ⟨xs, a, vs, h, e, es, nf, n0, hA, r, np⟩ := own_at c.m h
  obtain ⟨m0, n0⟩ := mask_none.mp n0
  have m := c.m
  have hn : H a ≠ none := by rw [hA]; exact fun z => by cases z
  have sb : Sub F H (fun c => F c ∨ c = a) H := sub_fz a
  refine h1.run F0 H0 M0 F1 H1 De Da σ (env.set i (.d (.lst xs))) (fun c => F c ∨ c = a) H M ⟨⟨⟨fun b f => .inl (c.b.ex.up b f), fun b f => ?_, c.b.ex.kp, c.b.ex.al, c.b.ex.md, c.b.ex.ok.fz hn m0 np⟩, c.b.sb.trans sb⟩, ?_⟩ k h
  · rcases f with f | rfl
    · exact c.b.ex.dn b f
    · exact .inr (.inl n0)
  have hl : i < env.length := (List.getElem?_eq_some_iff.mp e).1
  refine ⟨by rw [List.length_set, m.ln], fun j s ej => ?_, fun j l us ws c e1 e2 e3 e4 => ?_⟩
  · by_cases h : j = i
    · subst h
      rw [List.getElem?_set_self hl] at ej
      cases ej
      exact ⟨_, es, _, rfl, .lst (.inr rfl) hA (r.sub sb)⟩
    · rw [List.getElem?_set_ne (Ne.symm h)] at ej
      obtain ⟨ov, eo, so⟩ := m.at_ j s ej
      refine ⟨ov, eo, ?_⟩
      cases s with
      | u => trivial
      | d x =>
        obtain ⟨v, ev, rv⟩ := so
        exact ⟨v, ev, rv.sub sb⟩
      | o us =>
        obtain ⟨c, vs, ec, nfc, n0c, hc, rc, npc⟩ := so
        subst ec
        exact ⟨c, vs, rfl, fun f => by
          rcases f with f | f
          · exact nfc f
          · exact h (m.own j i us xs c ej e eo (by rw [f]; exact es)), n0c, hc, rc.sub sb, npc⟩
  · have ne : ∀ {j : Nat} {us : List Dat}, (env.set i (.d (.lst xs)))[j]? = some (.o us) → j ≠ i := fun {j us} ej z => by
      subst z
      rw [List.getElem?_set_self hl] at ej
      cases ej
    have a1 := ne e1
    have a2 := ne e2
    rw [List.getElem?_set_ne (Ne.symm a1)] at e1
    rw [List.getElem?_set_ne (Ne.symm a2)] at e2
    exact m.own j l us ws c e1 e2 e3 e4⟩
theorem z_for {wi : TI} {bi : BFr} {g : TG} {ag : ATg} {vs : List Nat} (hi : ∀ H0, BIter W H0 E wi bi) (hg : ∀ H0, ATgt W H0 vs g ag) (hb : BStm W E ts bs) : BStm W E (tFor wi g ts) (zFor bi ag bs) := ⟨fun F0 H0 M0 F1 H1 De Da σ env F H M c k h =>
  (hi H0).run σ env F H M _ _ _ (c.cfg k) h fun ds Fa Ha J Ma p1 x1 itk => by
  have c1 := c.step x1
  refine ⟨fun i n σ' H' => n + i = ds.length ∧ ∃ env' F' M', BCf W F0 H0 M0 F1 H1 F' H' M' σ' env' ∧ Sub Fa Ha F' H' ∧ forB ag bs Da (ds.drop i) env' M', ⟨ds.length, rfl, env, Fa, Ma, c1, Sub.refl Fa Ha, p1⟩, ?_⟩
  rintro i n σ2 H2 ⟨hn, env2, F2, M2, c2, s2, p2⟩
  by_cases hlt : i < ds.length
  · have hd : ds[i]? = some ds[i] := List.getElem?_eq_getElem hlt
    obtain ⟨go, yl⟩ := itk.it F2 H2 c2.b.ex.ok.ok s2 i _ hd
    rw [List.drop_eq_getElem_cons hlt] at p2
    refine .inr ⟨go, fun σ' H' => ∃ env' F' M', BCf W F0 H0 M0 F1 H1 F' H' M' σ' env' ∧ Sub Fa Ha F' H' ∧ forB ag bs Da (ds.drop (i + 1)) env' M',
      fun σ' H' ⟨env', F', M', rest⟩ => ⟨n - 1, by omega, by omega, env', F', M', rest⟩, fun x H3 y => ?_⟩
    obtain ⟨F3, x3, rx⟩ := yl x H3 y
    have x3 := x3.ex2 c2.b.ex.ok
    have c3 := c2.step x3
    have s3 := s2.trans (x3.sub c2.b.ex.ok)
    refine (hg _).run x _ σ2 env2 F3 H3 _ _ x3.ok.ok c3.m rx p2 fun env4 σ4 p4 m4 _ => ?_
    exact hb.run F0 H0 M0 F3 H3 _ { Da with nx := forB ag bs Da (ds.drop (i + 1)), ct := forB ag bs Da (ds.drop (i + 1)), bk := Da.nx } σ4 env4 F3 H3 M2 ⟨⟨c3.b.ex, Sub.refl _ _⟩, m4⟩
      ⟨fun σ env F H M b m h => ⟨env, F, M, ⟨⟨b.ex, c3.b.sb.trans b.sb⟩, m⟩, s3.trans b.sb, h⟩, fun v d F H M b => k.rt v d F H M ⟨b.ex, c3.b.sb.trans b.sb⟩, fun σ env F H M b => k.nx σ env F H M ⟨b.ex, c3.b.sb.trans b.sb⟩,
        fun σ env F H M b m h => ⟨env, F, M, ⟨⟨b.ex, c3.b.sb.trans b.sb⟩, m⟩, s3.trans b.sb, h⟩, fun σ env F H M b => k.ex σ env F H M ⟨b.ex, c3.b.sb.trans b.sb⟩⟩ p4
  · have e : i = ds.length := by omega
    subst e
    rw [List.drop_length] at p2
    exact .inl ⟨itk.done F2 H2 c2.b.ex.ok.ok s2, k.nx σ2 env2 F2 H2 M2 c2.b c2.m p2⟩⟩
theorem cQ_at {o : Option Ce} {P : List Dat → Prop} (h : cQ o P) : ∃ xs, o = some (.lst xs) ∧ P xs := by
  cases o with
  | none => exact h.elim
  | some c =>
    cases c with
    | lst xs => exact ⟨xs, rfl, h⟩
    | obj _ _ => exact h.elim
    | dK _ => exact h.elim
    | dT _ _ => exact h.elim
    | xd _ _ => exact h.elim
theorem rv_cell {F : Addr → Prop} {H : Hp} {v : V} {a : Addr} (r : Rv W F H v (.cell a)) : v = .ref a := by
  cases r
  rfl
theorem z_appC {to te : TE} {eo ea : BEx} (ho : ∀ H0, BExp W H0 E to eo) (he : ∀ H0, BExp W H0 E te ea) : BStm W E (tDrop (tBM W.K "list" rAppend to (tCons te tNil))) (zAppC eo ea) := ⟨fun F0 H0 M0 F1 H1 De Da σ env F H M c k h => by
  refine (ho H0).run σ env F H M _ _ _ (c.cfg k) h fun d Fa Ha v Ma p x rv => ?_
  cases d with
  | cell a =>
    have e := rv_cell rv
    subst e
    obtain ⟨xs, hM, p⟩ := cQ_at p
    obtain ⟨nf, np, vs, hA, r⟩ := x.ok.at_ a _ hM
    refine ⟨.inl ⟨rfl, vs, SqL.of hA⟩, ?_⟩
    have c1 := c.step x
    refine (he H0).run σ env Fa Ha Ma _ _ _ (c1.cfg k) p fun d F' H' u M' p2 x2 ru => ?_
    obtain ⟨ys, hM2, hl, p2⟩ := cQ_at p2
    obtain ⟨nf2, np2, ws, hA2, r2⟩ := x2.ok.at_ a _ hM2
    refine ⟨a, ws, u, rfl, rfl, hA2, len_size (by rw [r2.length]; omega), ?_⟩
    have sb : Sub F' H' F' (upd H' a (.lst (ws ++ [u]))) := fun c f => ⟨f, upd_ne (fun z => nf2 (by rw [← z]; exact f))⟩
    have x3 := x2.ok.upd_cell (o := .lst (ws ++ [u])) (c1 := .lst (ys ++ [d])) hM2 ⟨_, upd_same, (r2.append (.cons (show Rv W F' H' u d from ru) .nil)).sub sb⟩
    have c3 := (c1.step x2).step x3
    exact k.nx _ _ _ _ _ c3.b c3.m p2
  | _ => exact (show False from p).elim⟩
theorem z_putO {te ti : TE} {ev ei : BEx} {s : Nat} (he : ∀ H0, BExp W H0 E te ev) (hi : ∀ H0, BExp W H0 E ti ei) : BStm W E (tAsg te (gSub (tVar s) ti rSetL)) (zPutO s ev ei) := ⟨fun F0 H0 M0 F1 H1 De Da σ env F H M c k h => by
  obtain ⟨ys, a, vs, h, e1, e2, nf, n0, hA, r, np⟩ := own_at c.m h
  obtain ⟨m0, n0⟩ := mask_none.mp n0
  refine (he H0).run σ env F H M _ _ _ (c.cfg k) h fun d Fa Ha v Ma p x rv => ?_
  have ca := c.step x
  obtain ⟨nf1, hA1, m1⟩ := x.own nf hA m0 np
  refine ⟨_, e2, ?_⟩
  refine (hi H0).run σ env Fa Ha Ma _ _ _ (ca.cfg k) p fun i Fc Hc u Mc p x3 ru => ?_
  have cc := ca.step x3
  cases i with
  | int j =>
    obtain ⟨n, hn, p⟩ := (show ∃ n, ixN ys.length j = some n ∧ _ from p)
    cases (show Rv W Fc Hc u (.int j) from ru)
    obtain ⟨nf', hA', m'⟩ := x3.own nf1 hA1 m1 np
    have r' := r.sub ((x.trans x3).sub c.b.ex.ok)
    have rv3 : Rv W Fc Hc v d := Rv.sub (x3.sub x.ok) rv
    have c2 := z_own cc e1 e2 nf' m' n0 np (r'.set n rv3)
    exact ⟨a, vs, j, n, rfl, rfl, hA', by rw [r.length]; exact hn, k.nx _ _ _ _ _ c2.b c2.m p⟩
  | _ => exact (show False from p).elim⟩
end
abbrev BSp := List Dat → Sto → XD → (Dat → Sto → Prop) → Prop
def toSp2 (K : PySem.W.Frag) (ca : Nat → Addr) (bsp : BSp) : Sp := fun vs H Q E => ∃ (po : Option (Addr × Addr)) (F : Addr → Prop) (M : Sto) (ds : List Dat) (P : Dat → Sto → Prop) (X : XD), SoOk ⟨K, ca, po⟩ F H M ∧ RvAll ⟨K, ca, po⟩ F H vs ds ∧ bsp ds M X P ∧ XOk ⟨K, ca, po⟩ F H M E X ∧
  ∀ d F' H' M' v, P d M' → Ex2 ⟨K, ca, po⟩ F H M F' H' M' → Rv ⟨K, ca, po⟩ F' H' v d → Q v H'
/-- a call of a def that raises nothing here -/
def bCall2 (bsp : BSp) (ba : BFr) : BEx := fun env M X P => ba env M X fun ds M' => bsp ds M' X0 P
section
variable {K : PySem.W.Frag} {ca : Nat → Addr} {po : Option (Addr × Addr)} {H0 : Hp} {E : XS}
theorem b_call2 {n : Nat} {E' : XK} {t : TA} {ba : BFr} {bsp : BSp} (h : BArg ⟨K, ca, po⟩ H0 E n t ba) : BExp ⟨K, ca, po⟩ H0 E (tCall (toSp2 K ca bsp) [] E' t) (bCall2 bsp ba) :=
  ⟨fun σ env F H M Q P X c q k => h.run σ env F H M _ _ X c q fun ds F1 H1 vs M1 p1 x1 r1 _ => by
    rw [List.append_nil]
    exact ⟨po, F1, M1, ds, P, X0, x1.ok, r1, p1, .zero, fun d F' H' M' v p x r => k d F' H' v M' p (x1.trans x) r⟩⟩
end
theorem mt_anyB {W : Wd} {H0 H1 : Hp} {F : Addr → Prop} {H : Hp} {σ : L2.St} {env : List Sl} (no : ∀ (i : Nat) (xs : List Dat), env[i]? ≠ some (.o xs)) (m : Mt W H0 F H σ env) : Mt W H1 F H σ env :=
  ⟨m.ln, fun i s e => by
    obtain ⟨ov, e1, r⟩ := m.at_ i s e
    refine ⟨ov, e1, ?_⟩
    cases s with
    | u => trivial
    | d x => exact r
    | o xs => exact absurd e (no i xs), fun i j xs ys a e1 => absurd e1 (no i xs)⟩
theorem mt_start2 {W : Wd} {F : Addr → Prop} {H : Hp} {M : Sto} {N : List Str} {vs : List V} {ds : List Dat} (r : RvAll W F H vs ds) (hl : ds.length ≤ N.length) : Mt2 W H F H M (L2.start N vs) (ds.map Sl.d ++ List.replicate (N.length - ds.length) .u) :=
  mt_anyB (fun i xs e => by
    rcases List.mem_append.mp (List.mem_of_getElem? e) with h | h
    · obtain ⟨_, _, z⟩ := List.mem_map.mp h
      cases z
    · cases (List.mem_replicate.mp h).2) (mt_start r hl)
theorem sp_len2 {K : PySem.W.Frag} {ca : Nat → Addr} {bsp : BSp} {n : Nat} (hn : ∀ ds M X P, bsp ds M X P → ds.length = n) {vs : List V} {H : Hp} {Q : VK} {E : XK} (h : toSp2 K ca bsp vs H Q E) : vs.length = n := by
  obtain ⟨po, F, M, ds, P, X, ok, r, a, xo, k⟩ := h
  rw [r.length]
  exact hn ds M X P a
/-- a def over data and cells -/
theorem fn_run2 {K : PySem.W.Frag} {ca : Nat → Addr} {bsp : BSp} {N : List Str} {vs : List V} {H : Hp} {Q : VK} {E : XK} {ts : TS} {bs : BSt} (h : toSp2 K ca bsp vs H Q E) (hs : ∀ po, BStm ⟨K, ca, po⟩ (fun _ => E) ts bs) (hl : ∀ ds M X P, bsp ds M X P → ds.length ≤ N.length)
    (hb : ∀ ds M X P, bsp ds M X P → bs { nx := fun _ M => P .non M, rt := P, ex := fun _ => X } (ds.map Sl.d ++ List.replicate (N.length - ds.length) .u) M) : ts { nx := fun _ H' => Q .non H', rt := Q } (L2.start N vs) H := by
  obtain ⟨po, F, M, ds, P, X, ok, r, a, xo, k⟩ := h
  exact (hs po).run F H M F H _ { nx := fun _ M => P .non M, rt := P, ex := fun _ => X } _ _ F H M ⟨⟨.refl ok, Sub.refl F H⟩, mt_start2 r (hl ds M X P a)⟩
    ⟨fun σ env F' H' M' b m p => k .non F' H' M' .non p b.ex .non, fun v d F' H' M' b r p => k d F' H' M' v p b.ex r, fun _ _ _ _ _ _ _ p => p.elim, fun _ _ _ _ _ _ _ p => p.elim, fun _ _ _ _ _ b _ => xo.step b.ex⟩ (hb ds M X P a)
/-- a promise over data alone, kept by a def that has cells within -/
theorem fn_run1 {K : PySem.W.Frag} {ca : Nat → Addr} {asp : ASp} {N : List Str} {vs : List V} {H : Hp} {Q : VK} {E : XK} {ts : TS} {bs : BSt} (h : toSp K ca asp vs H Q E) (hs : ∀ po, BStm ⟨K, ca, po⟩ (fun _ => E) ts bs) (hl : ∀ ds P, asp ds P → ds.length ≤ N.length)
    (hb : ∀ ds P, asp ds P → bs { nx := fun _ _ => P .non, rt := fun d _ => P d } (ds.map Sl.d ++ List.replicate (N.length - ds.length) .u) (fun _ => none)) : ts { nx := fun _ H' => Q .non H', rt := Q } (L2.start N vs) H := by
  obtain ⟨po, F, ds, P, ok, r, a, k⟩ := h
  have st : SoOk ⟨K, ca, po⟩ F H (fun _ => none) := ⟨ok, fun _ _ e => by cases e⟩
  have down : ∀ {F' : Addr → Prop} {H' : Hp} {M' : Sto}, Ex2 ⟨K, ca, po⟩ F H (fun _ => none) F' H' M' → Ext ⟨K, ca, po⟩ F H F' H' := fun {F' H' M'} x => ⟨x.up, fun a f => by
    rcases x.dn a f with z | z | z
    · exact .inl z
    · exact .inr z
    · exact absurd rfl z, fun a o e n => x.kp a o e n rfl, x.ok.ok⟩
  exact (hs po).run F H _ F H _ { nx := fun _ _ => P .non, rt := fun d _ => P d } _ _ F H _ ⟨⟨.refl st, Sub.refl F H⟩, mt_start2 r (hl ds P a)⟩
    ⟨fun σ env F' H' M' b m p => k .non F' H' .non p (down b.ex) .non, fun v d F' H' M' b r p => k d F' H' v p (down b.ex) r, fun _ _ _ _ _ _ _ p => p.elim, fun _ _ _ _ _ _ _ p => p.elim, fun _ _ _ _ _ _ _ => .zero⟩ (hb ds P a)
def bFrz (be : BEx) : BEx := fun env M X P => be env M X fun x M1 => ceQ x fun a => cQ (M1 a) fun xs => P (.lst xs) (M1.put a none)
theorem drf_l {M : Sto} {xs : List Dat} : drf M (.lst xs) = .lst xs := rfl
theorem drf_t {M : Sto} {xs : List Dat} : drf M (.tup xs) = .tup xs := rfl
theorem drf_i {M : Sto} {i : Int} : drf M (.int i) = .int i := rfl
theorem drf_s {M : Sto} {i : Str} : drf M (.str i) = .str i := rfl
theorem drf_b {M : Sto} {i : Bool} : drf M (.bl i) = .bl i := rfl
theorem drf_n {M : Sto} : drf M .non = .non := rfl
theorem drf_o {M : Sto} {k : Nat} {ds : List Dat} : drf M (.obj k ds) = .obj k ds := rfl
theorem drf_c {M : Sto} {a : Addr} : drf M (.cell a) = drc a (M a) := rfl
theorem drc_l {a : Addr} {xs : List Dat} : drc a (some (.lst xs)) = .lst xs := rfl
theorem ceQ_c {a : Addr} {P : Addr → Prop} : ceQ (.cell a) P = P a := rfl
theorem inQ_i {j : Int} {P : Int → Prop} : inQ (.int j) P = P j := rfl
theorem cQ_l {xs : List Dat} {P : List Dat → Prop} : cQ (some (.lst xs)) P = P xs := rfl
theorem forB_suf {α : Type} {f : α → Dat} {g : ATg} {b : BSt} {D : BEnds} (W : List α → List Sl → Sto → Prop) (hs : ∀ x xs env M, W (x :: xs) env M → ∀ N : List Sl → Sto → Prop, (∀ env' M', W xs env' M' → N env' M') → g (f x) env fun env2 => b { D with nx := N, ct := N, bk := D.nx } env2 M)
    (hd : ∀ env M, W [] env M → D.nx env M) : ∀ xs env M, W xs env M → forB g b D (xs.map f) env M
  | [], env, M, h => hd env M h
  | x :: xs, env, M, h => hs x xs env M h (forB g b D (xs.map f)) fun env' M' w => forB_suf W hs hd xs env' M' w
theorem forB_ran {g : ATg} {b : BSt} {D : BEnds} {n : Nat} {lo : Int} {env : List Sl} {M : Sto} (W : Nat → List Sl → Sto → Prop) (h0 : W 0 env M)
    (hs : ∀ i env M, i < n → W i env M → ∀ N : List Sl → Sto → Prop, (∀ env' M', W (i + 1) env' M' → N env' M') → g (.int (lo + (i : Int))) env fun env2 => b { D with nx := N, ct := N, bk := D.nx } env2 M)
    (hd : ∀ env M, W n env M → D.nx env M) : forB g b D ((List.range n).map fun (i : Nat) => Dat.int (lo + (i : Int))) env M := by
  have gen : ∀ (m k : Nat) env M, k + m = n → W k env M → forB g b D ((List.range' k m).map fun (i : Nat) => Dat.int (lo + (i : Int))) env M := by
    intro m
    induction m with
    | zero =>
      intro k env M e w
      have e : k = n := by omega
      subst e
      exact hd env M w
    | succ m ih =>
      intro k env M e w
      exact hs k env M (by omega) w _ fun env' M' w' => ih (k + 1) env' M' (by omega) w'
  rw [List.range_eq_range']
  exact gen n 0 env M (by omega) h0
/-- what comes after a statement, by a name -/
theorem zseqG {a b : BSt} {D : BEnds} {env : List Sl} {M : Sto} (h : ∀ N : List Sl → Sto → Prop, N = b D → a { D with nx := N } env M) : zSeq a b D env M := h _ rfl
/-- a call that may raise -/
def bCallX (bsp : BSp) (ba : BFr) : BEx := fun env M X P => ba env M X fun ds M' => bsp ds M' X P
def zRaise (k : Nat) (ba : BFr) : BSt := fun D env M => ba env M (D.ex env) fun ds M1 => D.ex env k ds M1
section
variable {W : Wd} {E : XS}
def isC : Dat → Addr → Prop
  | .cell b, a => b = a
  | _, _ => False
end
/-- C(..) where __init__ may raise -/
def tMakeS (C : Addr) (sp : Sp) (E : L2.St → XK) (t : TA) : TE := fun σ H Q => t σ H fun vs H1 => ∀ x dx, H1 x = none → H1 dx = none → dx ≠ x → sp (.ref x :: vs) (upd (upd H1 dx (.own x)) x (.ins C dx [])) (fun v H2 => v = .non ∧ Q (.ref x) H2) (E σ)
section
variable {X : Cx} {CX : CXT} {k : Nat} {f C : Addr} {fd : FuncData} {ps : List Str} {sp : Sp} {E : L2.St → XK} {x m : Str} {p pos apos : Pos} {e o : Expr} {es : List Expr} {ta : TE} {t : TA}
theorem run_makeS {pins : List (Addr × Obj)} {σ : L2.St} {H : Hp} {s : Shared} {Q : VK} {us : List Value} {vs : List V} (M : Mk X.K C f) (F : FnOk X.prog X.w X.K X.mg X.base CX k f fd ps sp) (hr : Room (k + 1) X.A) (hb : Binds X.K fd ps []) (hx : PassesAt CX X σ (E σ)) (I : Inv X pins σ H s) (r : Vals vs us)
    (h : ∀ x dx, H x = none → H dx = none → dx ≠ x → sp (.ref x :: vs) (upd (upd H dx (.own x)) x (.ins C dx [])) (fun v H2 => v = .non ∧ Q (.ref x) H2) (E σ)) : wpAny (model X.prog X.w) X.A (call (.ref C) us) (EP X pins σ Q) X.xe s := by
  have hq := h (s.heap.objs.size + 1) s.heap.objs.size (I.hok.fresh (Nat.le_succ _)) (I.hok.fresh (Nat.le_refl _)) (Nat.ne_of_lt (Nat.lt_succ_self _)); have J := Inv.made (C := C) I
  have rr : Vals (V.ref (s.heap.objs.size + 1) :: vs) (Value.ref (s.heap.objs.size + 1) :: us) := .cons rfl r
  have hn : (Value.ref (s.heap.objs.size + 1) :: us).length = ps.length := by rw [← rr.length]; exact F.len _ _ _ _ hq
  have bb := hb _ (Value.ref (s.heap.objs.size + 1) :: us) J.kIn (by rw [List.append_nil]; exact hn)
  rw [List.append_nil] at bb
  refine wpAny_call (make_map (f := f) I.kIn M.makes M.init (beq_iff_eq.mp M.fn) (codeAny_mono (F.run _ X.stack _ _ ⟨Value.ref (s.heap.objs.size + 1) :: us, []⟩ (Value.ref (s.heap.objs.size + 1) :: us) _ _ (E σ) (hr.make C us []) (J.env0.make C us []) bb rr hq) fun out s2 hq2 => ?_))
  cases out with
  | error er => exact hx pins _ _ er s2 J hq2
  | ok fl =>
    cases fl with
    | ret u => obtain ⟨v, H3, J3, rv, ev, q3⟩ := J.after hq2; subst ev; exact ⟨rv, ⟨V.ref (s.heap.objs.size + 1), H3, J3, rfl, q3⟩⟩
    | next => exact hq2.elim
    | brk => exact hq2.elim
    | cont => exact hq2.elim
theorem pe_makeS (M : Mk X.K C f) (F : FnOk X.prog X.w X.K X.mg X.base CX k f fd ps sp) (hr : Room (k + 1) X.A) (hg : Gl X x) (hm : X.mg x = some (.ref C)) (hb : Binds X.K fd ps []) (hx : ∀ σ, PassesAt CX X σ (E σ)) (ha : PA X (e :: es) t) (hdb : (x == ("__debug__" : Str)) = false := by decide)
    (hst : starEach (e :: es) X.env = (false, eval e X.env) :: starEach es X.env := by rfl) (hpn : (backTo pos (starEach es X.env)).any (·.1) = false := by rfl) : PE X (.Call (.Name x p) (e :: es) [] pos) (tMakeS C sp E t) :=
  ⟨fun pins s σ H Q I h => wpAny_Call_Name_kw (ld_glob I hg hm (PySem.W.callWith_K (h₀ := X.base) I.ok.mod.kin M.kp (thn (ha.run pos pins s σ H _ I h) fun us s1 ⟨vs, H1, I1, r, q⟩ => ⟨I1.kIn, run_makeS M F hr hb (hx σ) I1 r q⟩) hst hpn) hdb)⟩
end
/-- a list of classes, as arguments -/
inductive ClsA : TA → List V → Prop
  | nil : ClsA tNil []
  | cons {v : V} {t : TA} {vs : List V} : ClsA t vs → ClsA (tCons (tC v) t) (v :: vs)
theorem ClsA.run {t : TA} {vs : List V} (h : ClsA t vs) : ∀ {σ : L2.St} {H : Hp} {Q : List V → Hp → Prop}, Q vs H → t σ H Q := by
  induction h with
  | nil => exact fun h => h
  | cons _ ih => exact fun h => ih h
def coQ (o : Option Ce) (P : Nat → List Dat → Prop) : Prop := match o with
  | some (.obj k ds) => P k ds
  | _ => False
theorem coQ_at {o : Option Ce} {P : Nat → List Dat → Prop} (h : coQ o P) : ∃ k ds, o = some (.obj k ds) ∧ P k ds := by
  cases o with
  | none => exact h.elim
  | some c =>
    cases c with
    | obj k ds => exact ⟨k, ds, rfl, h⟩
    | _ => exact h.elim
/-- o.f, o a cell -/
def bFldC (c i : Nat) (eo : BEx) : BEx := fun env M X P => eo env M X fun x M1 => ceQ x fun a => coQ (M1 a) fun k ds => k = c ∧ oQ ds[i]? fun d => P d M1
def putN (ds : List Dat) (i : Nat) (d : Dat) : List Dat := if i < ds.length then ds.set i d else ds ++ [d]
/-- o.f = e, o a cell -/
def zSetF (c i : Nat) (eo ea : BEx) : BSt := fun D env M => ea env M (D.ex env) fun d M1 => eo env M1 (D.ex env) fun x M2 => ceQ x fun a => coQ (M2 a) fun k ds => k = c ∧ i ≤ ds.length ∧ D.nx env (M2.put a (some (.obj c (putN ds i d))))
theorem putF_same {f : Str} {v : V} : ∀ {fs : List (Str × V)} {u : V}, fs.lookup f = some u → (putF f v fs).length = fs.length
  | [], _, h => nomatch h
  | (g, x) :: r, u, h => by
    show (if g = f then (g, v) :: r else (g, x) :: putF f v r).length = _
    by_cases z : g = f
    · rw [if_pos z]
      rfl
    · rw [if_neg z]
      have hh : (f == g) = false := by simpa using fun e : f = g => z e.symm
      have h : r.lookup f = some u := by
        rw [List.lookup_cons, hh] at h
        exact h
      exact congrArg (· + 1) (putF_same h)
theorem RvFs.setAt {W : Wd} {F : Addr → Prop} {H : Hp} {f : Str} {v : V} {d : Dat} (a : Rv W F H v d) : ∀ {ks : List Str} {ds : List Dat} {fs : List (Str × V)} {i : Nat}, RvFs W F H fs ks ds → ks.Nodup → ks[i]? = some f → RvFs W F H (putF f v fs) ks (ds.set i d)
  | _, _, _, _, .nil, _, h => by simp at h
  | _, _, _, 0, .cons e a1 r, nd, h => by
    cases h
    obtain ⟨n1, n2⟩ := List.nodup_cons.mp nd
    exact .cons (by rw [lookup_putF, if_pos rfl]) a (r.put n1)
  | k :: ks, _, _, i + 1, .cons e a1 r, nd, h => by
    obtain ⟨n1, n2⟩ := List.nodup_cons.mp nd
    have h : ks[i]? = some f := h
    exact .cons (by rw [lookup_putF, if_neg (fun z => n1 (by rw [z]; exact List.mem_of_getElem? h))]; exact e) a1 (RvFs.setAt a r n2 h)
section
variable {W : Wd} {E : XS}
theorem b_fldC {H0 : Hp} {c i : Nat} {f : Str} {to : TE} {eo : BEx} (cl : Cls W.K (W.ca c)) (na : NoAttr W.K (W.ca c) f) (hf : (clsN c)[i]? = some f) (ho : BExp W H0 E to eo) : BExp W H0 E (tFld W.K to f) (bFldC c i eo) := ⟨fun σ env F H M Q P X cf h q => ho.run σ env F H M _ _ X cf h fun d F1 H1 v M1 p1 x1 r1 => by
  cases d with
  | cell a =>
    have e := rv_cell (show Rv W F1 H1 v (.cell a) from r1)
    subst e
    obtain ⟨k, ds, hM, rfl, p⟩ := coQ_at p1
    obtain ⟨nf, np, dx, fs, hA, lf, rf, no⟩ := x1.ok.at_ a _ hM
    cases e : ds[i]? with
    | none =>
      rw [e] at p
      exact p.elim
    | some d =>
      rw [e] at p
      have li := (List.getElem?_eq_some_iff.mp e).1
      obtain ⟨v, e1, rv⟩ := rf.get (i := i) (by rw [List.getElem?_take_of_lt li]; exact hf) e
      exact ⟨a, _, dx, fs, v, rfl, hA, cl, na, e1, q d F1 H1 v M1 p x1 rv⟩
  | _ => exact (show False from p1).elim⟩
theorem z_setF {c i : Nat} {f : Str} {to te : TE} {eo ea : BEx} (cl : Cls W.K (W.ca c)) (na : NoAttr W.K (W.ca c) f) (hf : (clsN c)[i]? = some f) (nd : (clsN c).Nodup) (ln : (clsN c).length < 900) (ho : ∀ H0, BExp W H0 E to eo) (he : ∀ H0, BExp W H0 E te ea) :
    BStm W E (sFld W.K to te f) (zSetF c i eo ea) := ⟨fun F0 H0 M0 F1 H1 De Da σ env F H M cf k h => by
  refine (he H0).run σ env F H M _ _ _ (cf.cfg k) h fun d Fa Ha v Ma p x rv => ?_
  have ca := cf.step x
  refine (ho H0).run σ env Fa Ha Ma _ _ _ (ca.cfg k) p fun o F' H' w M' p x2 ro => ?_
  have cb := ca.step x2
  cases o with
  | cell a =>
    have e := rv_cell (show Rv W F' H' w (.cell a) from ro)
    subst e
    obtain ⟨kk, ds, hM, rfl, hi, p⟩ := coQ_at p
    obtain ⟨nf, np, dx, fs, hA, lf, rf, no⟩ := x2.ok.at_ a _ hM
    have lds := rf.len
    rw [List.length_take] at lds
    have li : i < (clsN kk).length := (List.getElem?_eq_some_iff.mp hf).1
    refine ⟨a, W.ca kk, dx, fs, rfl, hA, cl, na, by omega, ?_⟩
    have rv2 : Rv W F' H' v d := Rv.sub (x2.sub x.ok) rv
    have sb : Sub F' H' F' (upd H' a (.ins (W.ca kk) dx (putF f v fs))) := fun c f => ⟨f, upd_ne (fun z => nf (by rw [← z]; exact f))⟩
    have lk : (putF f v fs).lookup f = some v := by rw [lookup_putF, if_pos rfl]
    have x3 := x2.ok.upd_cell (o := .ins (W.ca kk) dx (putF f v fs)) (c1 := .obj kk (putN ds i d)) hM (by
      refine ⟨dx, putF f v fs, upd_same, ?_⟩
      unfold putN
      by_cases z : i < ds.length
      · rw [if_pos z, List.length_set]
        have hf' : ((clsN kk).take ds.length)[i]? = some f := by rw [List.getElem?_take_of_lt z]; exact hf
        obtain ⟨u, eu, _⟩ := rf.get (i := i) hf' (List.getElem?_eq_getElem z)
        refine ⟨by rw [putF_same eu]; exact lf, (RvFs.setAt rv2 rf (nd.sublist (List.take_sublist _ _)) hf').sub sb, fun m hm => ?_⟩
        rw [lookup_putF, if_neg (fun e => hm (by rw [e]; exact List.mem_of_getElem? hf'))]
        exact no m hm
      · rw [if_neg z]
        have ei : i = ds.length := by omega
        subst ei
        have tk : (clsN kk).take (ds ++ [d]).length = (clsN kk).take ds.length ++ [f] := by
          rw [List.length_append, List.length_singleton, List.take_add_one, hf]
          rfl
        have nm : f ∉ (clsN kk).take ds.length := fun hm => by
          obtain ⟨j, hj⟩ := List.mem_iff_getElem?.mp hm
          have lj := (List.getElem?_eq_some_iff.mp hj).1
          rw [List.length_take] at lj
          rw [List.getElem?_take_of_lt (by omega)] at hj
          have := (List.getElem?_inj (i := j) (j := ds.length) (by omega) nd).mp (hj.trans hf.symm)
          omega
        refine ⟨?_, ?_, fun m hm => ?_⟩
        · have := putF_len f v fs
          rw [List.length_append, List.length_singleton]
          omega
        · rw [tk]
          exact ((rf.put nm).snoc lk rv2).sub sb
        · rw [tk] at hm
          rw [lookup_putF, if_neg (fun e => hm (by rw [e]; exact List.mem_append.mpr (.inr List.mem_cons_self)))]
          exact no m fun e => hm (List.mem_append.mpr (.inl e)))
    have c3 := cb.step x3
    exact k.nx _ _ _ _ _ c3.b c3.m p
  | _ => exact (show False from p).elim⟩
end
def toSpI2 (K : PySem.W.Frag) (ca : Nat → Addr) (c : Nat) (bsp : BSp) : Sp := fun vs H Q E => ∃ (po : Option (Addr × Addr)) (F : Addr → Prop) (H1 : Hp) (x dx : Addr) (ws : List V) (M : Sto) (ds : List Dat) (P : Dat → Sto → Prop) (X : XD),
  vs = .ref x :: ws ∧ H = upd (upd H1 dx (.own x)) x (.ins (ca c) dx []) ∧ H1 x = none ∧ H1 dx = none ∧ dx ≠ x ∧ SoOk ⟨K, ca, po⟩ F H1 M ∧ RvAll ⟨K, ca, po⟩ F H1 ws ds ∧ bsp (.cell x :: ds) (M.put x (some (.obj c []))) X P ∧ XOk ⟨K, ca, po⟩ F H1 M E X ∧
  ∀ d F' H' M' v, P d M' → Ex2 ⟨K, ca, po⟩ F H1 M F' H' M' → Rv ⟨K, ca, po⟩ F' H' v d → Q v H'
def bMake2 (c : Nat) (bsp : BSp) (ba : BFr) : BEx := fun env M X P => ba env M X fun ds M' => ∀ x, M' x = none → bsp (.cell x :: ds) (M'.put x (some (.obj c []))) X fun d M2 => d = .non ∧ P (.cell x) M2
section
variable {K : PySem.W.Frag} {ca : Nat → Addr} {po : Option (Addr × Addr)} {H0 : Hp} {E : XS}
theorem b_make2 {n c : Nat} {t : TA} {ba : BFr} {bsp : BSp} (h : BArg ⟨K, ca, po⟩ H0 E n t ba) : BExp ⟨K, ca, po⟩ H0 E (tMakeS (ca c) (toSpI2 K ca c bsp) E t) (bMake2 c bsp ba) :=
  ⟨fun σ env F H M Q P X cf q k => h.run σ env F H M _ _ X cf q fun ds F1 H1 vs M1 p1 x1 r1 _ => fun x dx hx hdx hne =>
    ⟨po, F1, H1, x, dx, vs, M1, ds, _, X, rfl, rfl, hx, hdx, hne, x1.ok, r1, p1 x (x1.ok.new hx), (cf.step x1).x, fun d F' H' M' v p y r => by
      obtain ⟨rfl, p⟩ := p
      cases r
      exact ⟨rfl, k (.cell x) F' H' (.ref x) M' p (x1.trans y) (.cell x)⟩⟩⟩
end
/-- an object's cell that is not changed any more -/
def bFrzO (be : BEx) : BEx := fun env M X P => be env M X fun x M1 => ceQ x fun a => coQ (M1 a) fun k ds => ds.length = (clsN k).length ∧ P (.obj k ds) (M1.put a none)
/-- the start of an __init__ -/
theorem so_made {W : Wd} {F : Addr → Prop} {H1 : Hp} {M : Sto} {x dx : Addr} {c : Nat} (ok : SoOk W F H1 M) (hx : H1 x = none) (hdx : H1 dx = none) (hne : dx ≠ x) : Ex2 W F H1 M F (upd (upd H1 dx (.own x)) x (.ins (W.ca c) dx [])) (M.put x (some (.obj c []))) := by
  have e1 : Ext W F H1 F (upd H1 dx (.own x)) := Ext.lay ok.ok hdx
  have e2 : Ext W F (upd H1 dx (.own x)) F (upd (upd H1 dx (.own x)) x (.ins (W.ca c) dx [])) := Ext.lay e1.ok (by rw [upd_ne hne.symm]; exact hx)
  have y := (e1.ex2 ok).trans (e2.ex2 (e1.ex2 ok).ok)
  refine ⟨y.up, y.dn, y.kp, y.al, fun b hb => ?_, y.ok.new_cell (fun f => ok.ok.tr x f hx) (ok.new hx) (ok.ok.pne hx) ⟨dx, [], upd_same, Nat.le_refl _, .nil, fun _ _ => rfl⟩⟩
  by_cases z : b = x
  · rw [z]
    exact .inr hx
  · rw [Sto.put_n z] at hb
    exact .inl hb
theorem fn_runI2 {K : PySem.W.Frag} {ca : Nat → Addr} {c : Nat} {bsp : BSp} {N : List Str} {vs : List V} {H : Hp} {Q : VK} {E : XK} {ts : TS} {bs : BSt} (h : toSpI2 K ca c bsp vs H Q E) (hs : ∀ po, BStm ⟨K, ca, po⟩ (fun _ => E) ts bs) (hl : ∀ ds M X P, bsp ds M X P → ds.length ≤ N.length)
    (hb : ∀ ds M X P, bsp ds M X P → bs { nx := fun _ M => P .non M, rt := P, ex := fun _ => X } (ds.map Sl.d ++ List.replicate (N.length - ds.length) .u) M) : ts { nx := fun _ H' => Q .non H', rt := Q } (L2.start N vs) H := by
  obtain ⟨po, F, H1, x, dx, ws, M, ds, P, X, rfl, rfl, hx, hdx, hne, ok, r, a, xo, k⟩ := h
  have y := so_made (W := ⟨K, ca, po⟩) (c := c) ok hx hdx hne
  have r2 : RvAll ⟨K, ca, po⟩ F (upd (upd H1 dx (.own x)) x (.ins (ca c) dx [])) (.ref x :: ws) (.cell x :: ds) := .cons (.cell x) (r.sub (y.sub ok))
  exact (hs po).run F _ _ F _ _ { nx := fun _ M => P .non M, rt := P, ex := fun _ => X } _ _ F _ _ ⟨⟨.refl y.ok, Sub.refl F _⟩, mt_start2 r2 (hl _ _ X P a)⟩
    ⟨fun σ env F' H' M' b m p => k .non F' H' M' .non p (y.trans b.ex) .non, fun v d F' H' M' b r p => k d F' H' M' v p (y.trans b.ex) r, fun _ _ _ _ _ _ _ p => p.elim, fun _ _ _ _ _ _ _ p => p.elim, fun _ _ _ _ _ b _ => xo.step (y.trans b.ex)⟩ (hb _ _ X P a)
theorem sp_lenI2 {K : PySem.W.Frag} {ca : Nat → Addr} {c n : Nat} {bsp : BSp} (hn : ∀ ds M X P, bsp ds M X P → ds.length = n) {vs : List V} {H : Hp} {Q : VK} {E : XK} (h : toSpI2 K ca c bsp vs H Q E) : vs.length = n := by
  obtain ⟨po, F, H1, x, dx, ws, M, ds, P, X, rfl, rfl, hx, hdx, hne, ok, r, a, xo, k⟩ := h
  have := hn _ _ X P a
  rw [List.length_cons] at this ⊢
  rw [r.length]
  exact this
/-- a class whose __init__ may raise -/
structure MakX (P : Program) (w : World) (K : PySem.W.Frag) (mg : Str → Option Value) (base : Heap) (k : Nat) (x : Str) (C : Addr) (sp : Sp) : Prop where
  ex : ∃ (f : Addr) (fd : FuncData) (ps : List Str), Mk K C f ∧ FnOk P w K mg base (L2.CX P w) k f fd ps sp ∧ mg x = some (.ref C) ∧ Binds K fd ps []
theorem pe_mkX {X : Cx} {x : Str} {C : Addr} {sp : Sp} {W : WX} {e : Expr} {es : List Expr} {t : TA} {p pos : Pos} {k n : Nat} (c : MakX X.prog X.w X.K X.mg X.base n x C sp) (tk : Takes X W) (hr : Room k X.A) (hk : n + 1 ≤ k) (hg : Gl X x) (ha : PA X (e :: es) t)
    (hdb : (x == ("__debug__" : Str)) = false := by decide) (he : starEach (e :: es) X.env = (false, eval e X.env) :: starEach es X.env := by rfl) (hpl : (backTo pos (starEach es X.env)).any (·.1) = false := by rfl) : PE X (.Call (.Name x p) (e :: es) [] pos) (tMakeS C sp (WE W) t) := by
  obtain ⟨f, fd, ps, M, F, hm, hb⟩ := c.ex
  exact pe_makeS M F (hr.mono hk) hg hm hb (fun σ => passAt tk σ) ha hdb he hpl
theorem coQ_o {k : Nat} {ds : List Dat} {P : Nat → List Dat → Prop} : coQ (some (.obj k ds)) P = P k ds := rfl
theorem isC_c {a b : Addr} : isC (.cell b) a = (b = a) := rfl
open AutoSeq1 (wpAny_loadPart')
theorem tuple_eqB {prog : Program} {w : World} {A : Around} {R : Result → Shared → Prop} (l b : Addr) (items items2 : Array Value) (n n2 : Nat) (dd dd2 : Option Addr) (sl sl2 : Array (Option Value)) (I : Nat → Shared → Prop) (N : Shared → Prop)
    (turn : ∀ i (h1 : i < items.size) (h2 : i < items2.size) s, I i s → wpAny (model prog w) A.in1 (eqBool items[i] items2[i]) (fun r s' => (r = true ∧ I (i + 1) s') ∨ (r = false ∧ N s')) (fun e s' => R (.error e) s') s)
    (fin : ∀ s, I (min items.size items2.size) s → R (.ok (.ret (.bool (items.size == items2.size)))) s) (bad : ∀ s, N s → R (.ok (.ret (.bool false))) s)
    {s : Shared} (hl1 : s.heap.get? l = some { cls := .type "tuple", dict := dd, data := .seq items n, slots := sl }) (hb1 : s.heap.get? b = some { cls := .type "tuple", dict := dd2, data := .seq items2 n2, slots := sl2 }) (h : I 0 s) :
    wpAny (model prog w) A.in1 (Builtin.«tuple.__eq__» ⟨[.ref l, .ref b], []⟩) (GQ.FinOf prog w A R) (fun e s' => R (.error e) s') s := by
  have f2 := AutoSeq1.sub_tuple_tuple
  have hZ : (items.toList.zip items2.toList).length = min items.size items2.size := by simp
  have h0 := h
  obtain ⟨hp, g, d, tk, os⟩ := s
  wp_walk using wpAny_loadPart' hl1, wpAny_loadPart' hb1, wpAny_forIn_list _ (fun rest b s' => b.1 = none ∧ ∃ i, rest = (items.toList.zip items2.toList).drop i ∧ i ≤ min items.size items2.size ∧ I i s') _
  case turn =>
    rintro ⟨y, x⟩ rest b s' ⟨hb', i, hz, hi, hI⟩
    have hlt : i < (items.toList.zip items2.toList).length := by
      rcases Nat.lt_or_ge i (items.toList.zip items2.toList).length with h' | h'
      · exact h'
      · rw [List.drop_of_length_le h'] at hz; cases hz
    have hm : i < min items.size items2.size := hZ ▸ hlt
    have h1 : i < items.size := Nat.lt_of_lt_of_le hm (Nat.min_le_left _ _)
    have h2 : i < items2.size := Nat.lt_of_lt_of_le hm (Nat.min_le_right _ _)
    rw [List.drop_eq_getElem_cons hlt] at hz
    injection hz with hyx hrest
    have hy : y = items[i] := by have := congrArg Prod.fst hyx; simpa using this
    have hx : x = items2[i] := by have := congrArg Prod.snd hyx; simpa using this
    subst hy hx
    refine wpAny_bind (wpAny_mono (turn i h1 h2 s' hI) (fun r s2 q2 => ?_) fun _ _ x => x)
    rcases q2 with ⟨hr, q2⟩ | ⟨hr, q2⟩
    · subst hr
      wp_walk
      exact ⟨rfl, i + 1, hrest, hm, q2⟩
    · subst hr
      have hR := bad s2 q2
      wp_walk
      simpa using hR
  case fin =>
    rintro ⟨b1, b2⟩ s' ⟨hb', i, hz, hi, hI⟩
    simp only at hb'
    subst hb'
    have hge : min items.size items2.size ≤ i := by
      rcases Nat.lt_or_ge i (items.toList.zip items2.toList).length with h' | h'
      · rw [List.drop_eq_getElem_cons h'] at hz; cases hz
      · exact hZ ▸ h'
    have hi' : i = min items.size items2.size := Nat.le_antisymm hi hge
    have hR := fin s' (hi' ▸ hI)
    wp_walk
    simpa [Builtin.Tuple.tupleCompareSizes] using hR
  case h =>
    exact ⟨rfl, 0, rfl, Nat.zero_le _, h0⟩
theorem rc_tupB {prog : Program} {w : World} {A : Around} {E : Value → Shared → Prop} {s : Shared} {l b : Addr} {items items2 : Array Value} {Q : Value → Shared → Prop} (hu : A.units < cLine) (I : Nat → Shared → Prop) (N : Shared → Prop)
    (hl : s.heap.IsTuple l items) (hb : s.heap.IsTuple b items2)
    (turn : ∀ i (h1 : i < items.size) (h2 : i < items2.size) s, I i s → wpAny (model prog w) A.in1 (eqBool items[i] items2[i]) (fun r s' => (r = true ∧ I (i + 1) s') ∨ (r = false ∧ N s')) E s)
    (fin : ∀ s, I (min items.size items2.size) s → Q (.bool (items.size == items2.size)) s) (bad : ∀ s, N s → Q (.bool false) s) (h : I 0 s) : wpAny (model prog w) A (richCompare .Eq (.ref l) (.ref b)) Q E s := by
  obtain ⟨⟨cls, dd, data, sl⟩, ho, hc, n, hd⟩ := id hl
  obtain ⟨⟨cls2, dd2, data2, sl2⟩, ho2, hc2, n2, hd2⟩ := id hb
  simp only at hc hd hc2 hd2
  subst hc hd hc2 hd2
  refine wpAny_richCompare_same_room (op := .Eq) ⟨_, ho, rfl⟩ ⟨_, ho2, rfl⟩ F.slot_tuple_eq (GQ.call_here F.slot_tuple_eq ⟨_, ho, rfl⟩ F.entry_tuple_eq (F.args_tuple_eq_2 _ _) ?_) hu
  exact tuple_eqB (R := wants (fun v s' => v ≠ .notImplemented ∧ Q v s') E) l b items items2 n n2 dd dd2 sl sl2 I N turn (fun s' q => ⟨(fun x => nomatch x), fin s' q⟩) (fun s' q => ⟨(fun x => nomatch x), bad s' q⟩) ho ho2 h
/-- a value reads in one way only -/
def UQ (S : Dat → Dat → Prop) : Prop := ∀ (W : Wd) (F : Addr → Prop) (H : Hp) (v : V) (d e : Dat), S d e → Rv W F H v d → Rv W F H v e → d = e
def EqS (X : Cx) (ca : Nat → Addr) (n : Nat) (S : Dat → Dat → Prop) : Prop :=
  ∀ (po : Option (Addr × Addr)) (A : Around) (pins : List (Addr × Obj)) (s : Shared) (σ : L2.St) (F : Addr → Prop) (H : Hp) (x y : V) (d e : Dat) (u v : Value), L2.Sub X n A → Inv X pins σ H s → RelV x u → RelV y v → Okk ⟨X.K, ca, po⟩ F H → Rv ⟨X.K, ca, po⟩ F H x d → Rv ⟨X.K, ca, po⟩ F H y e → S d e →
    wpAny (model X.prog X.w) A (eqBool u v) (fun r s' => (r = true ↔ d = e) ∧ ∃ F' H', Inv X pins σ H' s' ∧ Ext ⟨X.K, ca, po⟩ F H F' H') X.xe s
def RcS (X : Cx) (ca : Nat → Addr) (n : Nat) (S : Dat → Dat → Prop) : Prop :=
  ∀ (po : Option (Addr × Addr)) (A : Around) (pins : List (Addr × Obj)) (s : Shared) (σ : L2.St) (F : Addr → Prop) (H : Hp) (x y : V) (d e : Dat) (u v : Value), L2.Sub X n A → Inv X pins σ H s → RelV x u → RelV y v → Okk ⟨X.K, ca, po⟩ F H → Rv ⟨X.K, ca, po⟩ F H x d → Rv ⟨X.K, ca, po⟩ F H y e → S d e →
    wpAny (model X.prog X.w) A (richCompare .Eq u v) (fun r s' => (∃ b, r = .bool b ∧ (b = true ↔ d = e)) ∧ ∃ F' H', Inv X pins σ H' s' ∧ Ext ⟨X.K, ca, po⟩ F H F' H') X.xe s
section
variable {X : Cx} {ca : Nat → Addr} {n : Nat} {S : Dat → Dat → Prop}
/-- tuples, item by item -/
def tupS (S : Dat → Dat → Prop) : Dat → Dat → Prop := fun d e => ∃ ds es, d = .tup ds ∧ e = .tup es ∧ ∀ (i : Nat) (x y : Dat), ds[i]? = some x → es[i]? = some y → S x y
theorem RvAll.uq (hu : UQ S) {W : Wd} {F : Addr → Prop} {H : Hp} : ∀ {vs : List V} {ds es : List Dat}, (∀ (i : Nat) (x y : Dat), ds[i]? = some x → es[i]? = some y → S x y) → RvAll W F H vs ds → RvAll W F H vs es → ds = es
  | _, _, _, _, .nil, .nil => rfl
  | _, _, _, h, .cons a r, .cons b q => by
    rw [hu _ _ _ _ _ _ (h 0 _ _ rfl rfl) a b, RvAll.uq hu (fun i x y h1 h2 => h (i + 1) x y h1 h2) r q]
theorem UQ.tup (hu : UQ S) : UQ (tupS S) := fun W F H v d e hs r1 r2 => by
  obtain ⟨ds, es, rfl, rfl, h⟩ := hs
  cases r1 with
  | @tup a vs _ hA rr =>
    cases r2 with
    | @tup _ ws _ hB qq =>
      have e1 : vs = ws := by
        obtain ⟨_, o, e1, t1⟩ := hA
        obtain ⟨_, o2, e2, t2⟩ := hB
        rw [e1] at e2
        cases e2
        obtain ⟨_, _, rfl⟩ := t1
        obtain ⟨_, _, h2⟩ := t2
        cases h2
        rfl
      subst e1
      rw [RvAll.uq hu h rr qq]
theorem RcS.tup (h : EqS X ca n S) : RcS X ca (n + 1) (tupS S) := by
  intro po A pins s σ F H x y d e u v sb I rx ry ok r1 r2 hs
  obtain ⟨ds, es, rfl, rfl, hs⟩ := hs
  cases r1 with
  | @tup a vs _ hA rr =>
    cases r2 with
    | @tup b ws _ hB qq =>
      cases rx
      cases ry
      obtain ⟨its, r, e, z⟩ := I.tuple hA.sq
      obtain ⟨its2, r2, e2, z2⟩ := I.tuple hB.sq
      have l1 : its.length = ds.length := by rw [← r.length, rr.length]
      have l2 : its2.length = es.length := by rw [← r2.length, qq.length]
      refine rc_tupB sb.room.units0 (fun i s' => ∃ F' H', Inv X pins σ H' s' ∧ Ext ⟨X.K, ca, po⟩ F H F' H' ∧ ∀ j, j < i → ds[j]? = es[j]?) (fun s' => ∃ F' H', Inv X pins σ H' s' ∧ Ext ⟨X.K, ca, po⟩ F H F' H' ∧ ds ≠ es) e e2 (fun i h1 h2 s' q => ?_) (fun s' q => ?_) (fun s' q => ?_) ⟨F, H, I, .refl ok, fun j hj => absurd hj (Nat.not_lt_zero j)⟩
      · obtain ⟨F1, H1, I1, x1, hj⟩ := q
        have k1 : i < vs.length := by rw [r.length]; simpa using h1
        have k2 : i < ws.length := by rw [r2.length]; simpa using h2
        obtain ⟨u, hu, ru⟩ := r.get (List.getElem?_eq_getElem k1)
        obtain ⟨v, hv, rv⟩ := r2.get (List.getElem?_eq_getElem k2)
        have g1 : its[i]? = some its.toArray[i] := by
          have h1' : i < its.length := by simpa using h1
          rw [List.getElem?_eq_getElem h1'] <;> simp
        have g2 : its2[i]? = some its2.toArray[i] := by
          have h2' : i < its2.length := by simpa using h2
          rw [List.getElem?_eq_getElem h2'] <;> simp
        rw [g1] at hu
        rw [g2] at hv
        rw [Option.some.inj hu, Option.some.inj hv]
        obtain ⟨d1, a1, b1⟩ := rr.getV (List.getElem?_eq_getElem k1)
        obtain ⟨d2, a2, b2⟩ := qq.getV (List.getElem?_eq_getElem k2)
        refine wpAny_mono (h po A.in1 pins s' σ F1 H1 _ _ d1 d2 _ _ sb.in1 I1 ru rv x1.ok (b1.sub (x1.sub ok)) (b2.sub (x1.sub ok)) (hs i d1 d2 a1 a2)) (fun r s2 q => ?_) fun _ _ x => x
        obtain ⟨hr, F2, H2, I2, x2⟩ := q
        cases r with
        | true =>
          refine .inl ⟨rfl, F2, H2, I2, x1.trans ok x2, fun j lt => ?_⟩
          by_cases z : j = i
          · subst z
            rw [a1, a2, hr.mp rfl]
          · exact hj j (by omega)
        | false =>
          refine .inr ⟨rfl, F2, H2, I2, x1.trans ok x2, fun z => ?_⟩
          rw [z, a2] at a1
          exact absurd (hr.mpr (Option.some.inj a1).symm) (by decide)
      · obtain ⟨F1, H1, I1, x1, hj⟩ := q
        refine ⟨⟨_, rfl, ?_⟩, F1, H1, I1, x1⟩
        rw [List.size_toArray, List.size_toArray, l1, l2, beq_iff_eq]
        rw [List.size_toArray, List.size_toArray, l1, l2] at hj
        refine ⟨fun z => ?_, fun z => by rw [Dat.tup.inj z]⟩
        congr 1
        refine List.ext_getElem? fun j => ?_
        by_cases lt : j < ds.length
        · exact hj j (by omega)
        · rw [List.getElem?_eq_none (by omega), List.getElem?_eq_none (by omega)]
      · obtain ⟨F1, H1, I1, x1, hj⟩ := q
        exact ⟨⟨false, rfl, (fun z => by cases z), fun z => absurd (Dat.tup.inj z) hj⟩, F1, H1, I1, x1⟩
/-- objects of one class, by its own == -/
def objS (c : Nat) (asp : ASp) : Dat → Dat → Prop := fun d e => (∃ ds es, d = .obj c ds ∧ e = .obj c es) ∧ asp [d, e] fun z => ∃ b, z = .bl b ∧ (b = true ↔ d = e)
theorem RcS.obj {CX : CXT} {c : Nat} {asp : ASp} {f : Addr} {fd : FuncData} {ps : List Str} {E : XK} (Fn : FnOk X.prog X.w X.K X.mg X.base CX n f fd ps (toSp X.K ca asp))
    (hs : PySem.W.findIn X.K (.ref (ca c)) "__eq__" = some (some (.ref f))) (hf : PySem.W.isFn X.K (.ref f) = true) (hb : Binds X.K fd ps []) (hx : Passes CX X E) : RcS X ca n (objS c asp) := by
  intro po A pins s σ F H x y d e u v sb I rx ry ok r1 r2 hS
  obtain ⟨⟨ds, es, rfl, rfl⟩, ha⟩ := hS
  cases r1 with
  | @obj a dx _ fs _ fa hA rf no =>
    cases r2 with
    | @obj b dy _ gs _ fb hB rg no2 =>
      cases rx
      cases ry
      obtain ⟨mA, J, _⟩ := ins_get I.hok hA
      obtain ⟨mB, J', _⟩ := ins_get I.hok hB
      obtain ⟨od, J, _⟩ := J.look
      obtain ⟨od', J', _⟩ := J'.look
      obtain ⟨m, hF⟩ := I.fr
      refine PySem.W.cmp_K (op := .Eq) (tb := .ref (ca c)) sb.room.units0 hF I.ok.mod.kin J J'.type (by simp [PySem.W.notFirst]) hs hf ?_
      have hsp : toSp X.K ca asp [.ref a, .ref b] H (fun v H' => (∃ b, v = .bl b ∧ (b = true ↔ Dat.obj c ds = Dat.obj c es)) ∧ ∃ F', Ext ⟨X.K, ca, po⟩ F H F' H') E := ⟨po, F, _, _, ok, .cons (.obj fa hA rf no) (.cons (.obj fb hB rg no2) .nil), ha, fun d F' H' v ⟨b, hb, p⟩ x r => by
        subst hb
        cases r
        exact ⟨⟨b, rfl, p⟩, F', x⟩⟩
      have e0 : Env0 X.prog X.w X.K X.mg X.base A X.stack s H := by
        have e := I.env0
        exact ⟨by rw [sb.fr]; exact e.frames, e.mod, e.bs, e.bsz, e.funs, e.frf, e.hok, e.bare⟩
      have hl := Fn.len _ _ _ _ hsp
      have r2 : Vals [V.ref a, V.ref b] [Value.ref a, Value.ref b] := .cons rfl (.cons rfl .nil)
      refine wpAny_call (codeAny_mono (Fn.run A X.stack s H ⟨[.ref a, .ref b], []⟩ [.ref a, .ref b] [.ref a, .ref b] _ E sb.room e0 (by
        have := hb s [.ref a, .ref b] I.kIn (by simpa using hl)
        simpa using this) r2 hsp) fun r s' hq => ?_)
      cases r with
      | error e => exact hx pins σ H s e s' I hq
      | ok fl =>
        cases fl with
        | ret w =>
          obtain ⟨z, H', I', rz, ⟨c, ez, hc⟩, F', ex⟩ := I.after hq
          subst ez
          cases rz
          exact ⟨⟨c, rfl, hc⟩, F', H', I', ex⟩
        | next => exact False.elim hq
        | brk => exact False.elim hq
        | cont => exact False.elim hq
theorem EqS.mono {m : Nat} (h : EqS X ca n S) (hn : n ≤ m) : EqS X ca m S := fun po A pins s σ F H x y d e u v sb => h po A pins s σ F H x y d e u v (sb.mono hn)
theorem RcS.mono {m : Nat} (h : RcS X ca n S) (hn : n ≤ m) : RcS X ca m S := fun po A pins s σ F H x y d e u v sb => h po A pins s σ F H x y d e u v (sb.mono hn)
end
theorem FzT.fn {W : Wd} {F : Addr → Prop} {H : Hp} {a : Addr} {vs ws : List V} (hA : FzT W F H a vs) (hB : FzT W F H a ws) : vs = ws := by
  obtain ⟨_, o, e1, t1⟩ := hA
  obtain ⟨_, o2, e2, t2⟩ := hB
  rw [e1] at e2
  cases e2
  obtain ⟨_, _, rfl⟩ := t1
  obtain ⟨_, _, h2⟩ := t2
  cases h2
  rfl
structure Rm (k : Nat) (A : Around) : Prop where
  rm : (A.depth + 3 * k + 5 < recursionLimit) ∧ (A.units + 16 * k + 200 < cLine)
theorem Rm.mono {j k : Nat} {A : Around} (r : Rm k A) (h : j ≤ k) : Rm j A := ⟨by have := r.rm.1; omega, by have := r.rm.2; omega⟩
/-- a datum as it stands now, cells opened, so many deep -/
def vwD : Nat → Sto → Dat → Dat
  | 0, _, d => d
  | n + 1, M, .cell a => match M a with
    | some (.lst xs) => .lst (xs.map (vwD n M))
    | some (.obj k ds) => if ds.length = (clsN k).length then .obj k (ds.map (vwD n M)) else .cell a
    | some (.dK kvs) => .dK (kvs.map fun p => (p.1, vwD n M p.2))
    | some (.dT ks ds) => .dT ks (ds.map (vwD n M))
    | _ => .cell a
  | _ + 1, _, d => d
def vwS (n : Nat) (M : Sto) : Sl → Sl
  | .d x => .d (vwD n M x)
  | s => s
def Pls (F : Addr → Prop) (M : Sto) : Addr → Prop := fun a => F a ∨ M a ≠ none
def Mns (F : Addr → Prop) (M : Sto) : Addr → Prop := fun a => F a ∧ M a = none
mutual
/-- flat data and tuples of it -/
def ftD : Dat → Bool
  | .non => true
  | .bl _ => true
  | .int _ => true
  | .str _ => true
  | .tup xs => ftAll xs
  | _ => false
def ftAll : List Dat → Bool
  | [] => true
  | x :: xs => ftD x && ftAll xs
end
theorem ftAll_of : ∀ {xs : List Dat}, (∀ x ∈ xs, ftD x = true) → ftAll xs = true
  | [], _ => rfl
  | x :: xs, h => by
    show (ftD x && ftAll xs) = true
    rw [h x List.mem_cons_self, ftAll_of fun y hy => h y (List.mem_cons_of_mem _ hy)]
    rfl
section
variable {W : Wd} {F F' : Addr → Prop} {H H' : Hp} {M : Sto}
theorem sub_pls : Sub F H (Pls F M) H := fun a f => ⟨.inl f, rfl⟩
theorem SoOk.pls (ok : SoOk W F H M) : Okk W (Pls F M) H := ⟨fun a f => by
    rcases f with f | f
    · exact ok.ok.tr a f
    · exact ok.al f, fun p c e => by
    obtain ⟨h1, h2, h3⟩ := ok.ok.po p c e
    have no : ∀ a, (a = p ∨ a = c) → M a = none := fun a ha => by
      cases z : M a with
      | none => rfl
      | some cc =>
        have := (ok.at_ a cc z).2.1 p c e
        rcases ha with ha | ha
        · exact absurd ha this.1
        · exact absurd ha this.2
    exact ⟨h1, fun f => f.elim h2 fun f => f (no p (.inl rfl)), fun f => f.elim h3 fun f => f (no c (.inr rfl))⟩⟩
theorem RvAll.vw {g : Dat → Dat} (k : ∀ v d, Rv W F H v d → Rv W F' H v (g d)) : ∀ {vs : List V} {ds : List Dat}, RvAll W F H vs ds → RvAll W F' H vs (ds.map g)
  | _, _, .nil => .nil
  | _, _, .cons a r => .cons (k _ _ a) (RvAll.vw k r)
theorem RvFs.vw {g : Dat → Dat} (k : ∀ v d, Rv W F H v d → Rv W F' H v (g d)) : ∀ {fs : List (Str × V)} {ks : List Str} {ds : List Dat}, RvFs W F H fs ks ds → RvFs W F' H fs ks (ds.map g)
  | _, _, _, .nil => .nil
  | _, _, _, .cons e a r => .cons e (k _ _ a) (RvFs.vw k r)
theorem RvKv.vw {g : Dat → Dat} (k : ∀ v d, Rv W F H v d → Rv W F' H v (g d)) : ∀ {us : List (Key × V)} {kvs : List (Key × Dat)}, RvKv W F H us kvs → RvKv W F' H us (kvs.map fun p => (p.1, g p.2))
  | _, _, .nil => .nil
  | _, _, .cons a r => .cons (k _ _ a) (RvKv.vw k r)
theorem vw_ok (ok : SoOk W F H M) : ∀ (n : Nat) (v : V) (d : Dat), Rv W F H v d → Rv W (Pls F M) H v (vwD n M d)
  | 0, v, d, r => r.sub sub_pls
  | n + 1, v, d, r => by
    cases d with
    | cell a =>
      have e := rv_cell r
      subst e
      show Rv W (Pls F M) H (.ref a) (match M a with
        | some (.lst xs) => .lst (xs.map (vwD n M))
        | some (.obj k ds) => if ds.length = (clsN k).length then .obj k (ds.map (vwD n M)) else .cell a
        | some (.dK kvs) => .dK (kvs.map fun p => (p.1, vwD n M p.2))
        | some (.dT ks ds) => .dT ks (ds.map (vwD n M))
        | _ => .cell a)
      cases e : M a with
      | none => exact .cell a
      | some c =>
        have pa : Pls F M a := .inr (by rw [e]; exact fun z => by cases z)
        cases c with
        | lst xs =>
          obtain ⟨_, _, vs, h, r⟩ := ok.at_ a _ e
          exact .lst pa h (r.vw (vw_ok ok n))
        | obj k ds =>
          obtain ⟨_, _, dx, fs, h, _, r, no⟩ := ok.at_ a _ e
          show Rv W (Pls F M) H (.ref a) (if ds.length = (clsN k).length then .obj k (ds.map (vwD n M)) else .cell a)
          by_cases z : ds.length = (clsN k).length
          · rw [if_pos z]
            rw [z, List.take_length] at r no
            exact .obj pa h (r.vw (vw_ok ok n)) no
          · rw [if_neg z]
            exact .cell a
        | dK kvs =>
          obtain ⟨_, _, us, h, r⟩ := ok.at_ a _ e
          exact .dK pa h (r.vw (vw_ok ok n))
        | dT ks ds =>
          obtain ⟨_, _, xs, vs, h, k, g, l, r⟩ := ok.at_ a _ e
          exact .dT pa h k (fun x hx => (g x hx).sub sub_pls) l (r.vw (vw_ok ok n))
        | xd _ _ => exact .cell a
    | _ => exact r.sub sub_pls
mutual
theorem Rv.back (k : ∀ a vs, FzT W F H a vs → F' a) : ∀ {v : V} {d : Dat}, Rv W F H v d → ftD d = true → Rv W F' H v d
  | _, _, .non, _ => .non
  | _, _, .bl b, _ => .bl b
  | _, _, .int i, _ => .int i
  | _, _, .str x, _ => .str x
  | _, _, .tup h r, t => .tup ⟨k _ _ h, h.2⟩ (RvAll.back k r t)
  | _, _, .pool _, t => nomatch t
  | _, _, .lst _ _ _, t => nomatch t
  | _, _, .obj _ _ _ _, t => nomatch t
  | _, _, .dK _ _ _, t => nomatch t
  | _, _, .dT _ _ _ _ _ _, t => nomatch t
  | _, _, .rng _ _, t => nomatch t
  | _, _, .cell _, t => nomatch t
theorem RvAll.back (k : ∀ a vs, FzT W F H a vs → F' a) : ∀ {vs : List V} {ds : List Dat}, RvAll W F H vs ds → ftAll ds = true → RvAll W F' H vs ds
  | _, _, .nil, _ => .nil
  | _, _, .cons (d := d) (ds := ds) a r, t => by
    have t : (ftD d && ftAll ds) = true := t
    rw [Bool.and_eq_true] at t
    exact .cons (Rv.back k a t.1) (RvAll.back k r t.2)
end
theorem CeOk.noT {a : Addr} {vs : List V} {o : HO} (e : H a = some o) (t : TpO o vs) : ∀ {c : Ce}, CeOk W F H a c → False := fun {c} h => by
  obtain ⟨ob, _, rfl⟩ := t
  cases c with
  | lst xs =>
    obtain ⟨_, h, _⟩ := h
    rw [e] at h
    cases h
  | obj k ds =>
    obtain ⟨_, _, h, _⟩ := h
    rw [e] at h
    cases h
  | dK kvs =>
    obtain ⟨_, h, _⟩ := h
    rw [e] at h
    cases h
  | dT ks ds =>
    obtain ⟨_, _, h, _⟩ := h
    rw [e] at h
    cases h
  | xd k ds =>
    obtain ⟨_, _, _, _, h, _⟩ := h
    rw [e] at h
    cases h
/-- behind what only looked -/
theorem Ext.vw (ok : SoOk W F H M) (x : Ext W (Pls F M) H F' H') : Ex2 W F H M (Mns F' M) H' M := by
  have sb : Sub F H (Mns F' M) H' := fun a f => ⟨⟨x.up a (.inl f), ok.nf f⟩, (x.sub ok.pls a (.inl f)).2⟩
  refine ⟨fun a f => (sb a f).1, fun a f => ?_, fun a o e n _ => x.kp a o e n, fun a h z => h (x.there ok.pls z), fun a h => .inl h, ⟨fun a f => x.ok.tr a f.1, fun p c e => ?_⟩, fun a c e => ?_⟩
  · rcases x.dn a f.1 with z | z
    · rcases z with z | z
      · exact .inl z
      · exact absurd f.2 z
    · exact .inr (.inl z)
  · obtain ⟨h1, h2, h3⟩ := x.ok.po p c e
    exact ⟨h1, fun f => h2 f.1, fun f => h3 f.1⟩
  · obtain ⟨_, h2, h3⟩ := ok.at_ a c e
    refine ⟨fun f => (by rw [f.2] at e; cases e), h2, h3.sub sb ?_⟩
    cases e2 : H a with
    | none => exact absurd e2 h3.there
    | some o => exact x.kp a o e2 h2.np
theorem Ext.vwR (ok : SoOk W F H M) (x : Ext W (Pls F M) H F' H') : ∀ a vs, FzT W F' H' a vs → Mns F' M a := fun a vs ⟨f, o, e, t⟩ => ⟨f, by
  cases z : M a with
  | none => rfl
  | some c =>
    obtain ⟨_, h2, h3⟩ := (Ext.vw ok x).ok.at_ a c z
    exact (h3.noT e t).elim⟩
theorem Mt.vw {H0 : Hp} {σ : L2.St} {env : List Sl} (ok : SoOk W F H M) (n : Nat) (m : Mt2 W H0 F H M σ env) : Mt W (mask H0 M) (Pls F M) H σ (env.map (vwS n M)) := by
  have inv : ∀ (i : Nat) (s : Sl), (env.map (vwS n M))[i]? = some s → ∃ s0, env[i]? = some s0 ∧ vwS n M s0 = s := fun i s e => by
    rw [List.getElem?_map] at e
    cases z : env[i]? with
    | none =>
      rw [z] at e
      cases e
    | some s0 =>
      rw [z] at e
      exact ⟨s0, rfl, by injection e⟩
  refine ⟨by rw [List.length_map]; exact m.ln, fun i s e => ?_, fun i j xs ys a e1 e2 => ?_⟩
  · obtain ⟨s0, e0, rfl⟩ := inv i s e
    obtain ⟨ov, e1, r⟩ := m.at_ i s0 e0
    refine ⟨ov, e1, ?_⟩
    cases s0 with
    | u => exact trivial
    | d y =>
      obtain ⟨v, e, r⟩ := r
      exact ⟨v, e, vw_ok ok n v y r⟩
    | o xs =>
      obtain ⟨a, vs, e, nf, n0, h, r, np⟩ := r
      exact ⟨a, vs, e, fun f => f.elim nf fun f => f (mask_none.mp n0).1, n0, h, r.sub sub_pls, np⟩
  · obtain ⟨s1, f1, g1⟩ := inv i _ e1
    obtain ⟨s2, f2, g2⟩ := inv j _ e2
    cases s1 with
    | o _ =>
      cases s2 with
      | o _ => exact m.own i j _ _ a f1 f2
      | u => cases g2
      | d _ => cases g2
    | u => cases g1
    | d _ => cases g1
end
def upV (n : Nat) (ae : AEx) : BEx := fun env M _ P => ae (env.map (vwS n M)) fun d => ftD d = true ∧ P d M
def upVF (n : Nat) (ae : AFr) : BFr := fun env M _ P => ae (env.map (vwS n M)) fun ds => ftAll ds = true ∧ P ds M
def upVT (n : Nat) (at_ : ATs) : BTs := fun env M _ P => at_ (env.map (vwS n M)) fun b => P b M
section
variable {W : Wd} {H0 : Hp} {E : XS} {te : TE} {ae : AEx} {tt : TT}
theorem b_upV (n : Nat) (h : ∀ H0, AExp W H0 te ae) : BExp W H0 E te (upV n ae) := ⟨fun σ env F H M Q P X c q k => (h _).run σ _ (Pls F M) H Q _ c.st.pls (c.m.vw c.st n) q fun d F' H' v p x r => k d (Mns F' M) H' v M p.2 (Ext.vw c.st x) (Rv.back (Ext.vwR c.st x) r p.1)⟩
theorem b_upVF (n : Nat) {af : AFr} (h : ∀ H0, AFrs W H0 te af) : BFrs W H0 E te (upVF n af) := ⟨fun σ env F H M Q P X c q k => (h _).run σ _ (Pls F M) H Q _ c.st.pls (c.m.vw c.st n) q fun ds F' H' a vs p x nn nf ha r => k ds (Mns F' M) H' a vs M p.2 (Ext.vw c.st x) nn (fun f => nf f.1) (c.st.new nn) ha (RvAll.back (Ext.vwR c.st x) r p.1)⟩
end
def dkQ (o : Option Ce) (P : List (Key × Dat) → Prop) : Prop := match o with
  | some (.dK kvs) => P kvs
  | _ => False
theorem dkQ_at {o : Option Ce} {P : List (Key × Dat) → Prop} (h : dkQ o P) : ∃ kvs, o = some (.dK kvs) ∧ P kvs := by
  cases o with
  | none => exact h.elim
  | some c =>
    cases c with
    | dK kvs => exact ⟨kvs, rfl, h⟩
    | _ => exact h.elim
def ksQ : Dat → (Key → Prop) → Prop
  | .str s, P => P (.inr s)
  | .int i, P => P (.inl i)
  | _, _ => False
theorem ksQ_at {W : Wd} {F : Addr → Prop} {H : Hp} {v : V} {d : Dat} {P : Key → Prop} (h : ksQ d P) (r : Rv W F H v d) : ∃ k, v = kV k ∧ P k := by
  cases r with
  | str s => exact ⟨.inr s, rfl, h⟩
  | int i => exact ⟨.inl i, rfl, h⟩
  | _ => exact (show False from h).elim
def putD (kvs : List (Key × Dat)) (k : Key) (d : Dat) : List (Key × Dat) := if (kvs.any fun kv => decide (kv.1 = k)) = true then kvs.map (fun kv => if kv.1 = k then (kv.1, d) else kv) else kvs ++ [(k, d)]
theorem RvKv.len {W : Wd} {F : Addr → Prop} {H : Hp} : ∀ {us : List (Key × V)} {kvs : List (Key × Dat)}, RvKv W F H us kvs → us.length = kvs.length
  | _, _, .nil => rfl
  | _, _, .cons _ r => congrArg (· + 1) (RvKv.len r)
theorem RvKv.any {W : Wd} {F : Addr → Prop} {H : Hp} {k : Key} : ∀ {us : List (Key × V)} {kvs : List (Key × Dat)}, RvKv W F H us kvs → (us.any fun kv => decide (kv.1 = k)) = (kvs.any fun kv => decide (kv.1 = k))
  | _, _, .nil => rfl
  | _, _, .cons (k := k') _ r => by
    rw [List.any_cons, List.any_cons, RvKv.any r]
theorem RvKv.mapP {W : Wd} {F : Addr → Prop} {H : Hp} {k : Key} {v : V} {d : Dat} (a : Rv W F H v d) : ∀ {us : List (Key × V)} {kvs : List (Key × Dat)}, RvKv W F H us kvs → RvKv W F H (us.map fun kv => if kv.1 = k then (kv.1, v) else kv) (kvs.map fun kv => if kv.1 = k then (kv.1, d) else kv)
  | _, _, .nil => .nil
  | _, _, .cons (k := k') b r => by
    rw [List.map_cons, List.map_cons]
    by_cases z : k' = k
    · rw [if_pos z, if_pos z]
      exact .cons a (RvKv.mapP a r)
    · rw [if_neg z, if_neg z]
      exact .cons b (RvKv.mapP a r)
theorem RvKv.snoc {W : Wd} {F : Addr → Prop} {H : Hp} {k : Key} {v : V} {d : Dat} (a : Rv W F H v d) : ∀ {us : List (Key × V)} {kvs : List (Key × Dat)}, RvKv W F H us kvs → RvKv W F H (us ++ [(k, v)]) (kvs ++ [(k, d)])
  | _, _, .nil => .cons a .nil
  | _, _, .cons b r => .cons b (RvKv.snoc a r)
theorem RvKv.put {W : Wd} {F : Addr → Prop} {H : Hp} {k : Key} {v : V} {d : Dat} {us : List (Key × V)} {kvs : List (Key × Dat)} (r : RvKv W F H us kvs) (a : Rv W F H v d) : RvKv W F H (putK us k v) (putD kvs k d) := by
  unfold putK putD
  rw [r.any]
  by_cases z : (kvs.any fun kv => decide (kv.1 = k)) = true
  · rw [if_pos z, if_pos z]
    exact r.mapP a
  · rw [if_neg z, if_neg z]
    exact r.snoc a
def mergeD (kvs more : List (Key × Dat)) : List (Key × Dat) := more.foldl (fun acc kv => putD acc kv.1 kv.2) kvs
theorem RvKv.merge {W : Wd} {F : Addr → Prop} {H : Hp} : ∀ {us us' : List (Key × V)} {kvs kvs' : List (Key × Dat)}, RvKv W F H us' kvs' → RvKv W F H us kvs → RvKv W F H (mergeK us us') (mergeD kvs kvs')
  | _, _, _, _, .nil, q => q
  | _, _, _, _, .cons (k := k) a r, q => RvKv.merge (us := putK _ k _) (kvs := putD _ k _) r (q.put a)
/-- d[k], d a cell -/
def bDget (eo ek : BEx) : BEx := fun env M X P => eo env M X fun x M1 => ek env M1 X fun y M2 => ceQ x fun a => ksQ y fun k => dkQ (M2 a) fun kvs => oQ (dgetD kvs k) fun d => P d M2
/-- d[k] = v -/
def zPutD (ev eo ek : BEx) : BSt := fun D env M => ev env M (D.ex env) fun d M1 => eo env M1 (D.ex env) fun x M2 => ek env M2 (D.ex env) fun y M3 => ceQ x fun a => ksQ y fun k => dkQ (M3 a) fun kvs => kvs.length < 1000 ∧ D.nx env (M3.put a (some (.dK (putD kvs k d))))
abbrev BPf := List Sl → Sto → XD → (List (Key × Dat) → Sto → Prop) → Prop
def bPn : BPf := fun _ M _ P => P [] M
def bPc (k : Key) (ea : BEx) (er : BPf) : BPf := fun env M X P => ea env M X fun d M1 => er env M1 X fun ds M2 => P ((k, d) :: ds) M2
structure BPrs (W : Wd) (H0 : Hp) (E : XS) (trs : List (TE × TE)) (bp : BPf) : Prop where
  run : ∀ (σ : L2.St) (env : List Sl) (F : Addr → Prop) (H : Hp) (M : Sto) (Q : List (V × V) → Hp → Prop) (P : List (Key × Dat) → Sto → Prop) (X : XD), Cfg W H0 E F H M σ env X → bp env M X P →
    (∀ kds F' H' (us : List (Key × V)) M', P kds M' → Ex2 W F H M F' H' M' → RvKv W F' H' us kds → Q (us.map fun kv => (kV kv.1, kv.2)) H') → tPairs trs σ H Q
/-- {k: e, ..}: from now on a cell -/
def bDisp (bp : BPf) : BEx := fun env M X P => ∀ p, M p = none → bp env (M.put p (some (.dK []))) X fun kds M2 => dkQ (M2 p) fun e => e = [] ∧ kds.length ≤ 15 ∧ P (.cell p) (M2.put p (some (.dK (mergeD [] kds))))
section
variable {W : Wd} {H0 : Hp} {E : XS} {te to tk tv : TE} {eo ek ea : BEx}
theorem b_dget (ho : BExp W H0 E to eo) (hk : BExp W H0 E tk ek) : BExp W H0 E (tDGet to tk) (bDget eo ek) := ⟨fun σ env F H M Q P X c q k => ho.run σ env F H M _ _ X c q fun d F1 H1 v M1 p1 x1 r1 => hk.run σ env F1 H1 M1 _ _ X (c.step x1) p1 fun y F2 H2 u M2 p2 x2 r2 => by
  cases d with
  | cell a =>
    have e := rv_cell (show Rv W F1 H1 v (.cell a) from r1)
    subst e
    obtain ⟨kk, rfl, p2⟩ := ksQ_at p2 r2
    obtain ⟨kvs, hM, p2⟩ := dkQ_at p2
    obtain ⟨nf, np, us, hA, rr⟩ := x2.ok.at_ a _ hM
    cases g : dgetD kvs kk with
    | none =>
      rw [g] at p2
      exact p2.elim
    | some z =>
      rw [g] at p2
      obtain ⟨w, e1, rw_⟩ := rr.dget g
      exact ⟨a, w, rfl, by rw [← e1]; exact DGet.k hA, k z F2 H2 w M2 p2 (x1.trans x2) rw_⟩
  | _ => exact (show False from p2).elim⟩
theorem z_putD (hv : ∀ H0, BExp W H0 E tv ea) (ho : ∀ H0, BExp W H0 E to eo) (hk : ∀ H0, BExp W H0 E tk ek) : BStm W E (sDPut to tk tv) (zPutD ea eo ek) := ⟨fun F0 H0 M0 F1 H1 De Da σ env F H M cf k h => by
  refine (hv H0).run σ env F H M _ _ _ (cf.cfg k) h fun d Fa Ha v Ma p x rv => ?_
  have ca := cf.step x
  refine (ho H0).run σ env Fa Ha Ma _ _ _ (ca.cfg k) p fun o Fb Hb w Mb p x2 ro => ?_
  have cb := ca.step x2
  refine (hk H0).run σ env Fb Hb Mb _ _ _ (cb.cfg k) p fun y F' H' u M' p x3 ry => ?_
  have cc := cb.step x3
  cases o with
  | cell a =>
    have e := rv_cell (show Rv W Fb Hb w (.cell a) from ro)
    subst e
    obtain ⟨kk, rfl, p⟩ := ksQ_at p ry
    obtain ⟨kvs, hM, hl, p⟩ := dkQ_at p
    obtain ⟨nf, np, us, hA, rr⟩ := x3.ok.at_ a _ hM
    have rv2 : Rv W F' H' v d := Rv.sub (x3.sub x2.ok) (Rv.sub (x2.sub x.ok) rv)
    have sb : Sub F' H' F' (upd H' a (.dK (putK us kk v))) := fun c f => ⟨f, upd_ne (fun z => nf (by rw [← z]; exact f))⟩
    refine ⟨a, _, rfl, DPut.k hA (Nat.lt_of_lt_of_le (by rw [rr.len]; exact hl) (by rw [sizeLine_eq]; decide)), ?_⟩
    have x4 := x3.ok.upd_cell (o := .dK (putK us kk v)) (c1 := .dK (putD kvs kk d)) hM ⟨_, upd_same, (rr.put rv2).sub sb⟩
    have c4 := cc.step x4
    exact k.nx _ _ _ _ _ c4.b c4.m p
  | _ => exact (show False from p).elim⟩
theorem b_pnil : BPrs W H0 E [] bPn := ⟨fun σ env F H M Q P X c q k => k [] F H [] M q (.refl c.st) .nil⟩
theorem b_pcons {x : Str} {trs : List (TE × TE)} {er : BPf} (ha : BExp W H0 E te ea) (hr : BPrs W H0 E trs er) : BPrs W H0 E ((tC (.str x), te) :: trs) (bPc (.inr x) ea er) := ⟨fun σ env F H M Q P X c q k =>
  ha.run σ env F H M _ _ X c q fun d F1 H1 v M1 p1 x1 r1 => hr.run σ env F1 H1 M1 _ _ X (c.step x1) p1 fun kds F2 H2 us M2 p2 x2 r2 => k ((.inr x, d) :: kds) F2 H2 ((.inr x, v) :: us) M2 p2 (x1.trans x2) (.cons (Rv.sub (x2.sub x1.ok) r1) r2)⟩
theorem b_disp {trs : List (TE × TE)} {bp : BPf} (h : BPrs W H0 E trs bp) : BExp W H0 E (tDisp trs) (bDisp bp) := ⟨fun σ env F H M Q P X c q k => by
  intro p hp
  have m0 := c.st.new hp
  have xl := (Ext.lay (o := HO.dK []) c.st.ok hp).ex2 c.st
  have np := c.st.ok.pne hp
  have nf : ¬ F p := fun f => c.st.ok.tr p f hp
  have x0 : Ex2 W F H M F (upd H p (.dK [])) (M.put p (some (.dK []))) := by
    refine ⟨xl.up, xl.dn, xl.kp, xl.al, fun b hb => ?_, xl.ok.new_cell nf m0 np ⟨[], upd_same, .nil⟩⟩
    by_cases z : b = p
    · rw [z]
      exact .inr hp
    · rw [Sto.put_n z] at hb
      exact .inl hb
  refine h.run σ env F (upd H p (.dK [])) _ _ _ X (c.step x0) (q p m0) fun kds F2 H2 us M2 p2 x2 r2 => ?_
  obtain ⟨e, hM, rfl, hl, p2⟩ := dkQ_at p2
  obtain ⟨nf2, np2, us0, hA, rr⟩ := x2.ok.at_ p _ hM
  cases rr
  refine ⟨hA, us, rfl, by rw [r2.len]; exact hl, ?_⟩
  have sb : Sub F2 H2 F2 (upd H2 p (.dK (mergeK [] us))) := fun c f => ⟨f, upd_ne (fun z => nf2 (by rw [← z]; exact f))⟩
  have x4 := x2.ok.upd_cell (o := .dK (mergeK [] us)) (c1 := .dK (mergeD [] kds)) hM ⟨_, upd_same, (RvKv.merge r2 .nil).sub sb⟩
  exact k (.cell p) F2 _ (.ref p) _ p2 ((x0.trans x2).trans x4) (.cell p)⟩
end
def bMethX (c : Nat) (bsp : BSp) (eo : BEx) (ba : BFr) : BEx := fun env M X P => eo env M X fun x M1 => ceQ x fun a => coQ (M1 a) fun k _ => k = c ∧ ba env M1 X fun ds M2 => bsp (.cell a :: ds) M2 X P
def bSeq (q : Dat → (List Dat → Prop) → Prop) (ea : BEx) : BFr := fun env M X P => ea env M X fun x M1 => q x fun ds => P ds M1
def dDQ : Dat → (List (Key × Dat) → Prop) → Prop
  | .dK kds, P => P kds
  | _, _ => False
def stQ : Dat → (Str → Prop) → Prop
  | .str s, P => P s
  | _, _ => False
def aDget2 (ea eb ec : AEx) : AEx := fun env P => ea env fun x => dDQ x fun kds => eb env fun y => ec env fun z => stQ y fun s => P ((dgetD kds (.inr s)).getD z)
def kMin2 : Dat → Dat → (Dat → Prop) → Prop
  | .int i, .int j, P => P (.int (if j < i then j else i))
  | _, _, _ => False
theorem kMin2_i {i j : Int} {P : Dat → Prop} : kMin2 (.int i) (.int j) P = P (.int (if j < i then j else i)) := rfl
/-- Kind, Request, Issuer -/
structure KdT (K : PySem.W.Frag) (C : Addr) : Prop where
  cl : Cls K C
  n_name : NoAttr K C "name"
  n_fields : NoAttr K C "fields"
/-- the wallet's fields -/
structure WlT (K : PySem.W.Frag) (C : Addr) : Prop where
  cl : Cls K C
  n_group : NoAttr K C "group"
  n_secret : NoAttr K C "secret"
  n_holdings : NoAttr K C "holdings"
/-- a pick's fields -/
structure PkT (K : PySem.W.Frag) (C : Addr) : Prop where
  cl : Cls K C
  n_row : NoAttr K C "row"
  n_randomness : NoAttr K C "randomness"
  n_numbers : NoAttr K C "numbers"
/-- a policy's fields -/
structure PoT (K : PySem.W.Frag) (C : Addr) : Prop where
  cl : Cls K C
  n_cards : NoAttr K C "cards"
  n_conditions : NoAttr K C "conditions"
/-- a question's fields -/
structure QuT (K : PySem.W.Frag) (C : Addr) : Prop where
  cl : Cls K C
  n_group : NoAttr K C "group"
  n_kinds : NoAttr K C "kinds"
  n_policy : NoAttr K C "policy"
  n_rows : NoAttr K C "rows"
section
variable {n : Nat} {M : Sto} {a : Addr}
theorem vw_lst {xs : List Dat} (h : M a = some (.lst xs)) : vwD (n + 1) M (.cell a) = .lst (xs.map (vwD n M)) := by
  unfold vwD
  rw [h]
theorem vw_dK {kvs : List (Key × Dat)} (h : M a = some (.dK kvs)) : vwD (n + 1) M (.cell a) = .dK (kvs.map fun p => (p.1, vwD n M p.2)) := by
  have e : vwD (n + 1) M (.cell a) = match M a with
    | some (.lst xs) => .lst (xs.map (vwD n M))
    | some (.obj k ds) => if ds.length = (clsN k).length then .obj k (ds.map (vwD n M)) else .cell a
    | some (.dK kvs) => .dK (kvs.map fun p => (p.1, vwD n M p.2))
    | some (.dT ks ds) => .dT ks (ds.map (vwD n M))
    | _ => .cell a := rfl
  rw [e, h]
theorem vw_n : vwD n M .non = .non := by cases n <;> rfl
theorem vw_b {b : Bool} : vwD n M (.bl b) = .bl b := by cases n <;> rfl
theorem vw_i {i : Int} : vwD n M (.int i) = .int i := by cases n <;> rfl
theorem vw_s {i : Str} : vwD n M (.str i) = .str i := by cases n <;> rfl
theorem vw_p : vwD n M .pool = .pool := by cases n <;> rfl
theorem vw_l {xs : List Dat} : vwD n M (.lst xs) = .lst xs := by cases n <;> rfl
theorem vw_t {xs : List Dat} : vwD n M (.tup xs) = .tup xs := by cases n <;> rfl
theorem vw_o {k : Nat} {xs : List Dat} : vwD n M (.obj k xs) = .obj k xs := by cases n <;> rfl
theorem vw_d {xs : List (Key × Dat)} : vwD n M (.dK xs) = .dK xs := by cases n <;> rfl
theorem vwS_d {x : Dat} : vwS n M (.d x) = .d (vwD n M x) := rfl
theorem vwS_u : vwS n M .u = .u := rfl
theorem vwS_o {xs : List Dat} : vwS n M (.o xs) = .o xs := rfl
theorem ftD_i {i : Int} : ftD (.int i) = true := rfl
theorem ftD_s {i : Str} : ftD (.str i) = true := rfl
theorem ftD_b {i : Bool} : ftD (.bl i) = true := rfl
theorem ftD_n : ftD .non = true := rfl
theorem ftD_t {xs : List Dat} : ftD (.tup xs) = ftAll xs := rfl
theorem ftAll_n : ftAll [] = true := rfl
theorem ftAll_c {x : Dat} {xs : List Dat} : ftAll (x :: xs) = (ftD x && ftAll xs) := rfl
end
theorem bk_dk {kvs : List (Key × Dat)} {P : List (Key × Dat) → Prop} : dkQ (some (.dK kvs)) P = P kvs := rfl
theorem bk_ks {s : Str} {P : Key → Prop} : ksQ (.str s) P = P (.inr s) := rfl
theorem bk_dd {kvs : List (Key × Dat)} {P : List (Key × Dat) → Prop} : dDQ (.dK kvs) P = P kvs := rfl
theorem bk_st {s : Str} {P : Str → Prop} : stQ (.str s) P = P s := rfl
theorem Sto.comm {M : Sto} {a b : Addr} {c d : Option Ce} (h : a ≠ b) : (M.put a c).put b d = (M.put b d).put a c := by
  funext x
  by_cases hb : x = b
  · subst hb
    rw [Sto.put_s, Sto.put_n (Ne.symm h), Sto.put_s]
  · rw [Sto.put_n hb]
    by_cases ha : x = a
    · subst ha
      rw [Sto.put_s, Sto.put_s]
    · rw [Sto.put_n ha, Sto.put_n ha, Sto.put_n hb]
theorem Sto.pp {M : Sto} {a : Addr} {c d : Option Ce} : (M.put a c).put a d = M.put a d := by
  funext x
  by_cases h : x = a
  · subst h
    rw [Sto.put_s, Sto.put_s]
  · rw [Sto.put_n h, Sto.put_n h, Sto.put_n h]
/-- x.put again, across another cell -/
theorem Sto.pap {M : Sto} {a b : Addr} {c d e : Option Ce} (h : a ≠ b) : ((M.put a c).put b d).put a e = (M.put a e).put b d := by
  rw [Sto.comm h, Sto.pp, Sto.comm (Ne.symm h)]
def kIxS : Dat → Dat → (Dat → Prop) → Prop
  | .str s, .int i, P => s.length ≤ 100000 ∧ ∃ c, atI s.cps.toList i = some c ∧ P (.str ⟨#[c]⟩)
  | _, _, _ => False
theorem rok_ixS {W : Wd} : ROk W Rv Rv Rv rIxS kIxS := fun F H x y d e Q P ok r1 r2 q k => by
  cases r1 with
  | str s =>
    cases r2 with
    | int i =>
      obtain ⟨hl, c, hc, p⟩ := q
      exact ⟨s, i, c, rfl, rfl, Nat.le_of_lt (len_size hl), hc, k _ F H _ p (.refl ok) (.str _)⟩
    | _ => exact (show False from q).elim
  | _ => exact (show False from q).elim
theorem ofS_inj {a b : String} : (Str.ofString a = Str.ofString b) = (a = b) := by
  refine propext ⟨fun h => ?_, fun h => by rw [h]⟩
  rw [Str.ofString_eq_toList, Str.ofString_eq_toList] at h
  injection h with h
  have h : a.toList.map Char.toNat = b.toList.map Char.toNat := by simpa using h
  have inj : ∀ {xs ys : List Char}, xs.map Char.toNat = ys.map Char.toNat → xs = ys := fun {xs} => by
    induction xs with
    | nil =>
      intro ys h
      cases ys with
      | nil => rfl
      | cons y ys => cases h
    | cons x xs ih =>
      intro ys h
      cases ys with
      | nil => cases h
      | cons y ys =>
        rw [List.map_cons, List.map_cons, List.cons.injEq] at h
        rw [ih h.2, Char.toNat_inj.mp h.1]
  exact String.toList_inj.mp (inj h)
theorem kDget_s {kds : List (Key × Dat)} {s : Str} {P : Dat → Prop} : kDget (.dK kds) (.str s) P = oQ (dgetD kds (.inr s)) P := rfl
theorem dg_c {k k' : Key} {d : Dat} {r : List (Key × Dat)} : dgetD ((k', d) :: r) k = if k' = k then some d else dgetD r k := by
  unfold dgetD
  by_cases h : k' = k
  · simp [List.find?_cons, h]
  · simp [List.find?_cons, h]
theorem dg_n {k : Key} : dgetD [] k = none := rfl
theorem kIxS_i {s : Str} {i : Int} {P : Dat → Prop} : kIxS (.str s) (.int i) P = (s.length ≤ 100000 ∧ ∃ c, atI s.cps.toList i = some c ∧ P (.str ⟨#[c]⟩)) := rfl
theorem kInt_bl {b : Bool} {P : Dat → Prop} : kInt (.bl b) P = P (.int (if b = true then 1 else 0)) := rfl
/-- name = {..} on one line, the name a local -/
theorem ps_setDc {X : Cx} {i : Nat} {y : Str} {py : Pos} {kx vx tg iter : Expr} {ifs : List Expr} {sc : Scope} {own : List (Str × Nat)} {pos spos : Pos} {wi : TI} {g : TG} {tt : TT} {tk tv : TE} (hc : X.calm = true) (hN : X.N.Nodup) (hy : X.N[i]? = some y) (hyl : X.env.scope.names.lookup y = some .local)
    (hsw : swapsWith (.DictComp kx vx [⟨tg, iter, ifs, 0⟩] sc pos) (some (.Name y py)) spos.line X.env = pure true) (hi : PI X tg iter wi) (ok : BlkOk X.N X.env.scope sc own)
    (hg : ∀ (s : Shared) (H : Hp) (C : Addr) (cl : List (Str × Addr)) (fp : List Addr), PG (X.blk s H sc (compEnvC sc cl C X.env) fp) tg g) (ht : ∀ (s : Shared) (H : Hp) (C : Addr) (cl : List (Str × Addr)) (fp : List Addr), PTs (X.blk s H sc (compEnvC sc cl C X.env) fp) ifs tt)
    (hk : ∀ (s : Shared) (H : Hp) (C : Addr) (cl : List (Str × Addr)) (fp : List Addr), PE (X.blk s H sc (compEnvC sc cl C X.env) fp) kx tk) (he : ∀ (s : Shared) (H : Hp) (C : Addr) (cl : List (Str × Addr)) (fp : List Addr), PE (X.blk s H sc (compEnvC sc cl C X.env) fp) vx tv) (hs : ∀ x, foldedSetIterable iter X.env x = pure x := by intro _; rfl) :
    PS X (.Assign [.Name y py] (.DictComp kx vx [⟨tg, iter, ifs, 0⟩] sc pos) spos) (tAsg (tDc wi g tt tk tv (own.map (·.2))) (gName i)) := ⟨fun pins s σ H D I h => by
  rw [exec_Assign_Name_used _ _ _ _ hsw]
  refine wpAny_bind (wpAny_standAt (wpAny_bind ?_))
  show wpAny _ X.A (do let _ ← comprehension (.DictComp kx vx [⟨tg, iter, ifs, 0⟩] sc pos) sc X.env (firstIterPos [⟨tg, iter, ifs, 0⟩] pos) newDict false (eval iter X.env) (some (assign (.Name y py) X.env))) _ _ s
  have h : tDc wi g tt tk tv (own.map (·.2)) σ H (fun x H1 => gName i x σ H1 D.nx) := h
  refine wpAny_bind (thn (dc_core (Qf := fun _ s' => SP X pins D .next s') hc hN I hi ok hg ht hk he hs h fun L C s' m H' I' q hn f => ?_) fun _ s' hq => wpAny_pure (wpAny_pure hq)); show wpAny _ _ (assign (.Name y py) X.env (.ref L)) _ _ _
  refine wpAny_assign_Name (store_ok2 (v := V.ref L) I' hN hy (.inl hyl) rfl (fun s2 I2 z2 => ?_) (.inr hyl))
  obtain ⟨a, sb, ha⟩ := z2; obtain ⟨f0, f1, f2, f3, f4, f5⟩ := f
  have nCa : C ≠ a := by
    rcases ha with z | z
    · rw [z]; exact f1
    · exact fun e => f4 y a z e.symm
  exact ⟨m, hn.sameBut sb nCa, fun h3 sb3 => ⟨_, H', I2.turned (t' := s2.toks) (fun b o hb e => (sb3.2 b hb).trans e) f0 f1 f3 f4 f5, q⟩⟩⟩
theorem sw_dc {kx vx : Expr} {gs : List Comprehension} {sc : Scope} {pos py : Pos} {y : Str} {l : Nat} {env : Env} (hk : env.scope.kind = .function) (hy : env.scope.names.lookup y = some .local) (hl : (py.line == pos.line) = true)
    (ha : (sc.names.any fun (n, k) => n == y && (k == .local || k == .cell)) = false) : swapsWith (.DictComp kx vx gs sc pos) (some (.Name y py)) l env = pure true := by
  have ky : env.kindOf y = some .local := hy
  have kb : env.blockKind = .function := by unfold Env.blockKind; rw [hk]; rfl
  unfold swapsWith
  simp only [kb, ky, ha, Expr.pos, hl]
  rfl
/-- the entries that are made of ds, behind those of acc -/
def lcD (el : Dat → (Option (Dat × Dat) → Prop) → Prop) (P : List (Key × Dat) → Prop) : List Dat → List (Key × Dat) → Prop
  | [], acc => P acc
  | d :: ds, acc => el d fun o => match o with
    | some (x, y) => ksQ x fun k => lcD el P ds (putD acc k y)
    | none => lcD el P ds acc
def elD (ag : ATg) (at_ : ATs) (ek ev : AEx) (env : List Sl) : Dat → (Option (Dat × Dat) → Prop) → Prop := fun d P => ag d env fun env2 => at_ env2 fun b => two b (ek env2 fun x => ev env2 fun y => P (some (x, y))) (P none)
def aDc (ai : AFr) (ag : ATg) (at_ : ATs) (ek ev : AEx) (vs : List Nat) : AEx := fun env P => ai env fun ds => ds.length ≤ 100000 ∧ lcD (elD ag at_ ek ev (wipeA env vs)) (fun kds => P (.dK kds)) ds []
theorem putD_len {kvs : List (Key × Dat)} {k : Key} {d : Dat} : (putD kvs k d).length ≤ kvs.length + 1 := by
  unfold putD
  split
  · rw [List.length_map]
    omega
  · rw [List.length_append, List.length_singleton]
    omega
theorem a_dc {W : Wd} {H0 : Hp} {wi : TI} {g : TG} {tt : TT} {tk tv : TE} {vs : List Nat} {ai : AFr} {ag : ATg} {at_ : ATs} {ek ev : AEx} (hi : AIter W H0 wi ai) (hg : ATgt W H0 vs g ag) (ht : ATst W H0 tt at_) (hk : AExp W H0 tk ek) (he : AExp W H0 tv ev) :
    AExp W H0 (tDc wi g tt tk tv vs) (aDc ai ag at_ ek ev vs) := ⟨fun σ env F H Q P ok m q k => hi.run σ env F H _ _ ok m q fun ds F1 H1 J p1 x1 itk => by
  intro D hD
  obtain ⟨sz, p1⟩ := p1
  have ok1 := x1.ok
  have m1 := m.ext ok x1
  have np : NPc W D := ok1.pne hD
  refine ⟨fun i n H' => n + i = ds.length ∧ ∃ F' acc ys, Ext W F1 H1 F' H' ∧ ¬ F' D ∧ H' D = some (.dK acc) ∧ RvKv W F' H' acc ys ∧ ys.length ≤ i ∧ lcD (elD ag at_ ek ev (wipeA env vs)) (fun kds => P (.dK kds)) (ds.drop i) ys,
    ⟨ds.length, rfl, F1, [], [], Ext.lay ok1 hD, fun f => ok1.tr D f hD, upd_same, .nil, Nat.le_refl _, p1⟩, ?_⟩
  rintro i n H2 ⟨hn, F2, acc, ys, x2, nf, hA, r2, ly, p2⟩
  have ok2 := x2.ok
  by_cases hlt : i < ds.length
  · have hd : ds[i]? = some ds[i] := List.getElem?_eq_getElem hlt
    obtain ⟨go, yl⟩ := itk.it F2 H2 ok2 (x2.sub ok1) i _ hd
    rw [List.drop_eq_getElem_cons hlt] at p2
    refine .inr ⟨go, fun H' => ∃ F' acc ys, Ext W F1 H1 F' H' ∧ ¬ F' D ∧ H' D = some (.dK acc) ∧ RvKv W F' H' acc ys ∧ ys.length ≤ i + 1 ∧ lcD (elD ag at_ ek ev (wipeA env vs)) (fun kds => P (.dK kds)) (ds.drop (i + 1)) ys,
      fun H' ⟨F', acc, ys, rest⟩ => ⟨n - 1, by omega, by omega, F', acc, ys, rest⟩, fun x H3 y => ?_⟩
    obtain ⟨F3, x3, rx⟩ := yl x H3 y
    have x13 := x2.trans ok1 x3
    refine hg.run x _ _ _ F3 H3 _ _ x3.ok ((m1.ext ok1 x13).wipe vs) rx p2 fun env4 σ4 p4 m4 w4 => ?_
    refine ⟨w4.trans (wipe_wipe σ vs), ht.run σ4 env4 F3 H3 _ _ x3.ok m4 p4 fun b F5 H5 p5 x5 => ?_⟩
    have keep : ∀ {Fa Fb : Addr → Prop} {Ha Hb : Hp}, Ext W Fa Ha Fb Hb → ¬ Fa D → Ha D = some (.dK acc) → ¬ Fb D ∧ Hb D = some (.dK acc) := fun {Fa Fb Ha Hb} x nf h => by
      refine ⟨fun f => ?_, x.kp D _ h np.np⟩
      rcases x.dn D f with z | z
      · exact nf z
      · rw [z] at h
        cases h
    obtain ⟨nf3, h3⟩ := keep x3 nf hA
    obtain ⟨nf5, h5⟩ := keep x5 nf3 h3
    have x35 := x3.trans ok2 x5
    have x15 := x2.trans ok1 x35
    cases b with
    | true =>
      rw [if_pos rfl]
      refine hk.run σ4 env4 F5 H5 _ _ x5.ok (m4.ext x3.ok x5) p5 fun dk F6 H6 kv p6 x6 r6 => ?_
      refine he.run σ4 env4 F6 H6 _ _ x6.ok ((m4.ext x3.ok x5).ext x5.ok x6) p6 fun e F7 H7 v p7 x7 r7 => ?_
      obtain ⟨nf6, h6⟩ := keep x6 nf5 h5
      obtain ⟨nf7, h7⟩ := keep x7 nf6 h6
      have x17 := (x15.trans ok1 x6).trans ok1 x7
      have r27 := r2.sub (((x35.trans ok2 x6).trans ok2 x7).sub ok2)
      obtain ⟨kk, rfl, p7⟩ := ksQ_at p7 r6
      have sb : Sub F7 H7 F7 (upd H7 D (.dK (putK acc kk v))) := fun a f => ⟨f, upd_ne (fun z => nf7 (by rw [← z]; exact f))⟩
      refine ⟨acc, kk, rfl, h7, len_size (by rw [r2.len]; omega), F7, _, putD ys kk e, ⟨x17.up, x17.dn, fun a o ha npa => ?_, ⟨fun a f => ?_, fun p c ep => ?_⟩⟩, nf7, upd_same, (r27.put r7).sub sb, Nat.le_trans putD_len (Nat.succ_le_succ ly), p7⟩
      · rw [upd_ne (ne_of_none ha hD)]
        exact x17.kp a o ha npa
      · rw [(sb a f).2]
        exact x17.ok.tr a f
      · obtain ⟨h1, h2, h3⟩ := x17.ok.po p c ep
        exact ⟨h1.mut (np p c ep).1 (np p c ep).2, h2, h3⟩
    | false =>
      rw [if_neg Bool.false_ne_true]
      exact ⟨F5, acc, ys, x15, nf5, h5, r2.sub (x35.sub ok2), by omega, p5⟩
  · have e : i = ds.length := by omega
    subst e
    rw [List.drop_length] at p2
    refine .inl ⟨itk.done F2 H2 ok2 (x2.sub ok1), ?_⟩
    exact k (.dK ys) (fun b => F2 b ∨ b = D) H2 (.ref D) p2 ((x1.trans ok x2).fz ok (x1.there ok hD) hA) (.dK (.inr rfl) hA (r2.sub (sub_fz D)))⟩
def aDIn (n : Bool) (ek ed : AEx) : AEx := fun env P => ek env fun y => ed env fun x => dDQ x fun kds => ksQ y fun k => P (.bl (if n then !(dgetD kds k).isSome else (dgetD kds k).isSome))
theorem RvAll.erase {W : Wd} {F : Addr → Prop} {H : Hp} : ∀ {vs : List V} {ds : List Dat} (n : Nat), RvAll W F H vs ds → RvAll W F H (vs.eraseIdx n) (ds.eraseIdx n)
  | _, _, _, .nil => .nil
  | _, _, 0, .cons _ r => r
  | _, _, n + 1, .cons a r => .cons a (RvAll.erase n r)
def bPop (eo ei : BEx) : BEx := fun env M X P => eo env M X fun x M1 => ceQ x fun a => cQ (M1 a) fun _ => ei env M1 X fun y M2 => inQ y fun j => cQ (M2 a) fun xs => ∃ (n : Nat) (d : Dat), j = (n : Int) ∧ n < 1000000 ∧ xs[n]? = some d ∧ P d (M2.put a (some (.lst (xs.eraseIdx n))))
def bRan (ba : BFr) : BFr := fun env M X P => ba env M X fun ds M1 => match ds with
  | [.int j] => j < 1000000000000 ∧ -1000000000000 < j ∧ P ((List.range j.toNat).map fun (i : Nat) => Dat.int (0 + (i : Int))) M1
  | _ => False
theorem b_ran {W : Wd} {H0 : Hp} {E : XS} {t : TA} {ba : BFr} (h : BArg W H0 E 1 t ba) : BIter W H0 E (iRng1 t) (bRan ba) := ⟨fun σ env F H M R P X c q k => h.run σ env F H M _ _ X c q fun ds F1 H1 vs M1 p1 x1 r1 l1 => by
  match ds, l1, p1, r1 with
  | [.int j], _, p1, .cons r .nil =>
    obtain ⟨p0, p2, p1⟩ := p1
    cases (show Rv W F1 H1 _ (.int j) from r)
    exact ⟨j, rfl, by omega, by omega, k _ F1 H1 _ M1 p1 x1 (it_ran 0 j.toNat)⟩
  | [.non], _, p1, _ => exact (show False from p1).elim
  | [.bl _], _, p1, _ => exact (show False from p1).elim
  | [.str _], _, p1, _ => exact (show False from p1).elim
  | [.pool], _, p1, _ => exact (show False from p1).elim
  | [.lst _], _, p1, _ => exact (show False from p1).elim
  | [.tup _], _, p1, _ => exact (show False from p1).elim
  | [.obj _ _], _, p1, _ => exact (show False from p1).elim
  | [.dK _], _, p1, _ => exact (show False from p1).elim
  | [.cell _], _, p1, _ => exact (show False from p1).elim⟩
def bMeth2 (c : Nat) (bsp : BSp) (eo : BEx) (ba : BFr) : BEx := fun env M X P => eo env M X fun x M1 => ceQ x fun a => coQ (M1 a) fun k _ => k = c ∧ ba env M1 X fun ds M2 => bsp (.cell a :: ds) M2 X0 P
theorem b_meth2 {K : PySem.W.Frag} {ca : Nat → Addr} {po : Option (Addr × Addr)} {H0 : Hp} {E : XS} {n c : Nat} {m : Str} {to : TE} {t : TA} {E' : XK} {eo : BEx} {ba : BFr} {bsp : BSp} (hm : m ∉ clsN c) (ho : BExp ⟨K, ca, po⟩ H0 E to eo) (h : BArg ⟨K, ca, po⟩ H0 E n t ba) : BExp ⟨K, ca, po⟩ H0 E (tMeth (ca c) m (toSp2 K ca bsp) [] E' to t) (bMeth2 c bsp eo ba) :=
  ⟨fun σ env F H M Q P X cf q k => ho.run σ env F H M _ _ X cf q fun d F1 H1 v M1 p1 x1 r1 => by
    cases d with
    | cell a =>
      have e := rv_cell (show Rv ⟨K, ca, po⟩ F1 H1 v (.cell a) from r1)
      subst e
      obtain ⟨kk, ds0, hM, rfl, p3⟩ := coQ_at p1
      obtain ⟨nf, np, dx, fs, hA, lf, rf, no⟩ := x1.ok.at_ a _ hM
      refine ⟨a, dx, fs, rfl, hA, no m fun z => hm (List.mem_of_mem_take z), ?_⟩
      exact h.run σ env F1 H1 M1 _ _ X (cf.step x1) p3 fun ds F2 H2 vs M2 p2 x2 r2 _ => by
        rw [List.append_nil]
        exact ⟨po, F2, M2, .cell a :: ds, P, X0, x2.ok, .cons (.cell a) r2, p2, .zero, fun d F' H' M' v p x r => k d F' H' v M' p ((x1.trans x2).trans x) r⟩
    | _ => exact (show False from p1).elim⟩
/-- a datum as it stands now, cells opened also within data, so many deep -/
def vwX : Nat → Sto → Dat → Dat
  | 0, _, d => d
  | n + 1, M, .cell a => match M a with
    | some (.lst xs) => .lst (xs.map (vwX n M))
    | some (.obj k ds) => if ds.length = (clsN k).length then .obj k (ds.map (vwX n M)) else .cell a
    | some (.dK kvs) => .dK (kvs.map fun p => (p.1, vwX n M p.2))
    | some (.dT ks ds) => .dT ks (ds.map (vwX n M))
    | _ => .cell a
  | n + 1, M, .lst xs => .lst (xs.map (vwX n M))
  | n + 1, M, .tup xs => .tup (xs.map (vwX n M))
  | n + 1, M, .obj k ds => .obj k (ds.map (vwX n M))
  | n + 1, M, .dK kvs => .dK (kvs.map fun p => (p.1, vwX n M p.2))
  | n + 1, M, .dT ks ds => .dT ks (ds.map (vwX n M))
  | _ + 1, _, .non => .non
  | _ + 1, _, .bl b => .bl b
  | _ + 1, _, .int i => .int i
  | _ + 1, _, .str s => .str s
  | _ + 1, _, .pool => .pool
  | _ + 1, _, .rng lo hi => .rng lo hi
section
variable {W : Wd} {F : Addr → Prop} {H : Hp} {M : Sto}
theorem vwX_ok (ok : SoOk W F H M) : ∀ (n : Nat) (v : V) (d : Dat), Rv W F H v d → Rv W (Pls F M) H v (vwX n M d)
  | 0, v, d, r => r.sub sub_pls
  | n + 1, v, d, r => by
    cases d with
    | cell a =>
      have e := rv_cell r
      subst e
      show Rv W (Pls F M) H (.ref a) (match M a with
        | some (.lst xs) => .lst (xs.map (vwX n M))
        | some (.obj k ds) => if ds.length = (clsN k).length then .obj k (ds.map (vwX n M)) else .cell a
        | some (.dK kvs) => .dK (kvs.map fun p => (p.1, vwX n M p.2))
        | some (.dT ks ds) => .dT ks (ds.map (vwX n M))
        | _ => .cell a)
      cases e : M a with
      | none => exact .cell a
      | some c =>
        have pa : Pls F M a := .inr (by rw [e]; exact fun z => by cases z)
        cases c with
        | lst xs =>
          obtain ⟨_, _, vs, h, r⟩ := ok.at_ a _ e
          exact .lst pa h (r.vw (vwX_ok ok n))
        | obj k ds =>
          obtain ⟨_, _, dx, fs, h, _, r, no⟩ := ok.at_ a _ e
          show Rv W (Pls F M) H (.ref a) (if ds.length = (clsN k).length then .obj k (ds.map (vwX n M)) else .cell a)
          by_cases z : ds.length = (clsN k).length
          · rw [if_pos z]
            rw [z, List.take_length] at r no
            exact .obj pa h (r.vw (vwX_ok ok n)) no
          · rw [if_neg z]
            exact .cell a
        | dK kvs =>
          obtain ⟨_, _, us, h, r⟩ := ok.at_ a _ e
          exact .dK pa h (r.vw (vwX_ok ok n))
        | dT ks ds =>
          obtain ⟨_, _, xs, vs, h, k, g, l, r⟩ := ok.at_ a _ e
          exact .dT pa h k (fun x hx => (g x hx).sub sub_pls) l (r.vw (vwX_ok ok n))
        | xd _ _ => exact .cell a
    | lst xs =>
      cases r with
      | lst f h r => exact .lst (.inl f) h (r.vw (vwX_ok ok n))
    | tup xs =>
      cases r with
      | tup h r => exact .tup (h.sub sub_pls) (r.vw (vwX_ok ok n))
    | obj k ds =>
      cases r with
      | obj f h r no => exact .obj (.inl f) h (r.vw (vwX_ok ok n)) no
    | dK kvs =>
      cases r with
      | dK f h r => exact .dK (.inl f) h (r.vw (vwX_ok ok n))
    | dT ks ds =>
      cases r with
      | dT f h k g l r => exact .dT (.inl f) h k (fun x hx => (g x hx).sub sub_pls) l (r.vw (vwX_ok ok n))
    | non => exact r.sub sub_pls
    | bl b => exact r.sub sub_pls
    | int i => exact r.sub sub_pls
    | str s => exact r.sub sub_pls
    | pool => exact r.sub sub_pls
    | rng lo hi => exact r.sub sub_pls
end
/-- a slot as it was, or opened -/
def SlX (M : Sto) (s t : Sl) : Prop := t = s ∨ ∃ n d, s = .d d ∧ t = .d (vwX n M d)
inductive SlsX (M : Sto) : List Sl → List Sl → Prop
  | nil : SlsX M [] []
  | cons {s t : Sl} {ss ts : List Sl} : SlX M s t → SlsX M ss ts → SlsX M (s :: ss) (t :: ts)
theorem SlsX.len {M : Sto} : ∀ {ss ts : List Sl}, SlsX M ss ts → ts.length = ss.length
  | _, _, .nil => rfl
  | _, _, .cons _ r => congrArg (· + 1) r.len
theorem SlsX.get {M : Sto} : ∀ {ss ts : List Sl} {i : Nat} {t : Sl}, SlsX M ss ts → ts[i]? = some t → ∃ s, ss[i]? = some s ∧ SlX M s t
  | _, _, _, _, .nil, e => by simp at e
  | _, _, 0, _, .cons a _, e => by
    rw [List.getElem?_cons_zero] at e
    cases e
    exact ⟨_, rfl, a⟩
  | _, _, i + 1, _, .cons _ r, e => by
    rw [List.getElem?_cons_succ] at e
    obtain ⟨s, h1, h2⟩ := SlsX.get (i := i) r e
    exact ⟨s, h1, h2⟩
theorem SlX.own {M : Sto} {s : Sl} {xs : List Dat} (h : SlX M s (.o xs)) : s = .o xs := by
  rcases h with e | ⟨_, _, _, e⟩
  · exact e.symm
  · cases e
/-- from here on no cell changes any more -/
def zStl (bs : BSt) : BSt := fun D env M => ∃ env', SlsX M env env' ∧ bs D env' (fun _ => none)
theorem z_stl {W : Wd} {E : XS} {ts : TS} {bs : BSt} (h1 : BStm W E ts bs) : BStm W E ts (zStl bs) := ⟨fun F0 H0 M0 F1 H1 De Da σ env F H M c k ⟨env', hs, h⟩ => by
  have ok := c.b.ex.ok
  have sb : Sub F H (Pls F M) H := sub_pls
  refine h1.run F0 H0 M0 F1 H1 De Da σ env' (Pls F M) H (fun _ => none) ⟨⟨⟨fun a f => .inl (c.b.ex.up a f), fun a f => ?_, fun a o e n m => c.b.ex.kp a o e n m, c.b.ex.al, fun a h => absurd rfl h, ⟨ok.pls, fun a cc e => by cases e⟩⟩, c.b.sb.trans sb⟩, ?_⟩ k h
  · rcases f with f | f
    · exact c.b.ex.dn a f
    · rcases c.b.ex.md a f with z | z
      · exact .inr (.inr z)
      · exact .inr (.inl z)
  · refine ⟨by rw [hs.len, c.m.ln], fun i t e => ?_, fun i j xs ys a e1 e2 e3 e4 => ?_⟩
    · obtain ⟨s, es, hx⟩ := hs.get e
      obtain ⟨ov, e1, r⟩ := c.m.at_ i s es
      refine ⟨ov, e1, ?_⟩
      rcases hx with rfl | ⟨n, d, rfl, rfl⟩
      · cases t with
        | u => trivial
        | d y =>
          obtain ⟨v, e, r⟩ := r
          exact ⟨v, e, r.sub sb⟩
        | o xs =>
          obtain ⟨a, vs, e, nf, n0, h, r, np⟩ := r
          obtain ⟨m0, n0⟩ := mask_none.mp n0
          exact ⟨a, vs, e, (fun f => f.elim nf fun f => f m0), mask_none.mpr ⟨rfl, n0⟩, h, r.sub sb, np⟩
      · obtain ⟨v, e, r⟩ := r
        exact ⟨v, e, vwX_ok ok n v d r⟩
    · obtain ⟨s, es, hx⟩ := hs.get e1
      obtain ⟨s2, es2, hx2⟩ := hs.get e2
      obtain rfl := hx.own
      obtain rfl := hx2.own
      exact c.m.own i j xs ys a es es2 e3 e4⟩
section
variable {n : Nat} {M : Sto} {a : Addr}
theorem vx_obj {k : Nat} {ds : List Dat} (h : M a = some (.obj k ds)) (l : ds.length = (clsN k).length) : vwX (n + 1) M (.cell a) = .obj k (ds.map (vwX n M)) := by
  unfold vwX
  rw [h]
  exact if_pos l
theorem vx_lst {xs : List Dat} (h : M a = some (.lst xs)) : vwX (n + 1) M (.cell a) = .lst (xs.map (vwX n M)) := by
  unfold vwX
  rw [h]
theorem vx_dK {kvs : List (Key × Dat)} (h : M a = some (.dK kvs)) : vwX (n + 1) M (.cell a) = .dK (kvs.map fun p => (p.1, vwX n M p.2)) := by
  have e : vwX (n + 1) M (.cell a) = match M a with
    | some (.lst xs) => .lst (xs.map (vwX n M))
    | some (.obj k ds) => if ds.length = (clsN k).length then .obj k (ds.map (vwX n M)) else .cell a
    | some (.dK kvs) => .dK (kvs.map fun p => (p.1, vwX n M p.2))
    | some (.dT ks ds) => .dT ks (ds.map (vwX n M))
    | _ => .cell a := rfl
  rw [e, h]
theorem vx_dT {ks : List (List Int)} {ds : List Dat} (h : M a = some (.dT ks ds)) : vwX (n + 1) M (.cell a) = .dT ks (ds.map (vwX n M)) := by
  unfold vwX
  rw [h]
theorem vx_n : vwX n M .non = .non := by cases n <;> rfl
theorem vx_b {b : Bool} : vwX n M (.bl b) = .bl b := by cases n <;> rfl
theorem vx_i {i : Int} : vwX n M (.int i) = .int i := by cases n <;> rfl
theorem vx_s {i : Str} : vwX n M (.str i) = .str i := by cases n <;> rfl
theorem vx_p : vwX n M .pool = .pool := by cases n <;> rfl
theorem vx_r {lo hi : Int} : vwX n M (.rng lo hi) = .rng lo hi := by cases n <;> rfl
theorem vx_o {k : Nat} {xs : List Dat} : vwX (n + 1) M (.obj k xs) = .obj k (xs.map (vwX n M)) := rfl
end
mutual
/-- no cells within -/
def ncD : Dat → Bool
  | .non => true
  | .bl _ => true
  | .int _ => true
  | .str _ => true
  | .pool => true
  | .tup xs => ncAll xs
  | .lst xs => ncAll xs
  | .obj _ xs => ncAll xs
  | .dK kvs => ncKv kvs
  | .dT _ ds => ncAll ds
  | .rng _ _ => true
  | .cell _ => false
def ncAll : List Dat → Bool
  | [] => true
  | x :: xs => ncD x && ncAll xs
def ncKv : List (Key × Dat) → Bool
  | [] => true
  | (_, x) :: xs => ncD x && ncKv xs
end
theorem ncAll_of : ∀ {xs : List Dat}, (∀ x ∈ xs, ncD x = true) → ncAll xs = true
  | [], _ => rfl
  | x :: xs, h => by
    show (ncD x && ncAll xs) = true
    rw [h x List.mem_cons_self, ncAll_of fun y hy => h y (List.mem_cons_of_mem _ hy)]
    rfl
theorem ncAll_map {α : Type} {f : α → Dat} {xs : List α} (h : ∀ x ∈ xs, ncD (f x) = true) : ncAll (xs.map f) = true := ncAll_of fun d hd => by
  obtain ⟨x, hx, rfl⟩ := List.mem_map.mp hd
  exact h x hx
mutual
theorem vx_nc {n : Nat} {M : Sto} : ∀ {d : Dat}, ncD d = true → vwX n M d = d
  | .non, _ => vx_n
  | .bl _, _ => vx_b
  | .int _, _ => vx_i
  | .str _, _ => vx_s
  | .pool, _ => vx_p
  | .rng _ _, _ => vx_r
  | .tup xs, h => by
    cases n with
    | zero => rfl
    | succ n => exact congrArg Dat.tup (vx_ncA h)
  | .lst xs, h => by
    cases n with
    | zero => rfl
    | succ n => exact congrArg Dat.lst (vx_ncA h)
  | .obj k xs, h => by
    cases n with
    | zero => rfl
    | succ n => exact congrArg (Dat.obj k) (vx_ncA h)
  | .dK kvs, h => by
    cases n with
    | zero => rfl
    | succ n => exact congrArg Dat.dK (vx_ncK h)
  | .dT ks ds, h => by
    cases n with
    | zero => rfl
    | succ n => exact congrArg (Dat.dT ks) (vx_ncA h)
theorem vx_ncA {n : Nat} {M : Sto} : ∀ {xs : List Dat}, ncAll xs = true → xs.map (vwX n M) = xs
  | [], _ => rfl
  | x :: xs, h => by
    have h : (ncD x && ncAll xs) = true := h
    rw [Bool.and_eq_true] at h
    rw [List.map_cons, vx_nc h.1, vx_ncA h.2]
theorem vx_ncK {n : Nat} {M : Sto} : ∀ {kvs : List (Key × Dat)}, ncKv kvs = true → (kvs.map fun p => (p.1, vwX n M p.2)) = kvs
  | [], _ => rfl
  | (k, x) :: xs, h => by
    have h : (ncD x && ncKv xs) = true := h
    rw [Bool.and_eq_true] at h
    rw [List.map_cons, vx_nc h.1, vx_ncK h.2]
end
section
open AutoSeq1 (wpAny_loadPart')
open MeetsSeq MeetsSeq2 MeetsSeq3 SeqRoads2
open AutoSeq1 (wpAny_loadPart')
open MeetsSeq MeetsSeq2 MeetsSeq3 SeqRoads2
/-- at each turn the list is read anew -/
def CntI (prog : Program) (w : World) (A : Around) (E : Value → Shared → Prop) (l : Addr) (x : Value) (N : Nat) (I : Nat → Shared → Prop) (Y : Shared → Prop) : Prop :=
  ∀ i s, I i s → ∃ (items : Array Value) (n : Nat), s.heap.get? l = some { cls := .type "list", data := .seq items n } ∧ items.size = N ∧ ∀ (h1 : i < items.size), wpAny (model prog w) A.in1 (eqBool items[i] x) (fun r s' => (r = true ∧ Y s') ∨ (r = false ∧ I (i + 1) s')) E s
theorem cnt_loop {prog : Program} {w : World} {A : Around} {R : Result → Shared → Prop} {l : Addr} {x : Value} {N : Nat} (I : Nat → Shared → Prop) (Y : Shared → Prop) (hl : CntI prog w A (fun e s' => R (.error e) s') l x N I Y)
    (fin : ∀ s, I N s → R (.ok (.ret (.bool false))) s) (yes : ∀ s, Y s → R (.ok (.ret (.bool true))) s) (k : Nat) :
    ∀ i : Nat, N - i = k → i ≤ N → ∀ s, I i s → wpAny (model prog w) A.in1 (Builtin.«list.__contains__.loop» ⟨[.ref l, x, rawInt i], []⟩) (GQ.FinOf prog w A R) (fun e s' => R (.error e) s') s := by
  induction k with
  | zero =>
    intro i hk hi s h
    obtain ⟨items, n, hg, hs, _⟩ := hl _ _ h
    obtain rfl : i = N := by omega
    have hR := fin s h
    obtain ⟨hp, g, d, tk, os⟩ := s
    wp_walk using wpAny_loadPart' hg
    have hi : items[((i : Nat) : Int).toNat]? = none := by simp; omega
    rw [hi]
    wp_walk
    exact hR
  | succ k ih =>
    intro i hk hi s h
    obtain ⟨items, n, hg, hs, turn⟩ := hl _ _ h
    have hlt : i < items.size := by omega
    have ht := turn hlt
    obtain ⟨hp, g, d, tk, os⟩ := s
    wp_walk using wpAny_loadPart' hg
    have hi1 : items[((i : Nat) : Int).toNat]? = some items[i] := by simp [hlt]
    have hc : ((i : Int) + 1) = ((i + 1 : Nat) : Int) := by omega
    rw [hi1]
    refine wpAny_bind (wpAny_mono ht (fun r s2 q2 => ?_) fun _ _ x => x)
    rcases q2 with ⟨hr, q2⟩ | ⟨hr, q2⟩
    · subst hr
      have hR := yes s2 q2
      wp_walk
      exact hR
    · subst hr
      have hrec := ih (i + 1) (by omega) (by omega) s2 q2
      obtain ⟨hp2, g2, d2, tk2, os2⟩ := s2
      wp_walk
      rw [hc]
      exact ⟨plainId_quiet plain_contains_loop _, codeAny_builtin entry_contains_loop (by
        rw [Around.under_plainId plain_contains_loop _]
        exact hrec)⟩
theorem cnt_list {prog : Program} {w : World} {A : Around} {R : Result → Shared → Prop} {l : Addr} {x : Value} {N : Nat} (I : Nat → Shared → Prop) (Y : Shared → Prop) (hl : CntI prog w A (fun e s' => R (.error e) s') l x N I Y)
    (fin : ∀ s, I N s → R (.ok (.ret (.bool false))) s) (yes : ∀ s, Y s → R (.ok (.ret (.bool true))) s) {s : Shared} (h : I 0 s) :
    wpAny (model prog w) A.in1 (Builtin.«list.__contains__» ⟨[.ref l, x], []⟩) (GQ.FinOf prog w A R) (fun e s' => R (.error e) s') s := by
  obtain ⟨items, n, hg, hs, _⟩ := hl _ _ h
  have hrec := cnt_loop (A := A) (R := R) I Y hl fin yes _ 0 rfl (Nat.zero_le _) s h
  obtain ⟨hp, g, d, tk, os⟩ := s
  wp_walk using wpAny_loadPart' hg
  exact ⟨plainId_quiet plain_contains_loop _, codeAny_builtin entry_contains_loop (by
    rw [Around.under_plainId plain_contains_loop _]
    exact hrec)⟩
theorem cnt_tuple {prog : Program} {w : World} {A : Around} {R : Result → Shared → Prop} {l : Addr} {items : Array Value} {n : Nat} {dd : Option Addr} {sl : Array (Option Value)} {x : Value} (I : Nat → Shared → Prop) (Y : Shared → Prop)
    (turn : ∀ i (h1 : i < items.size) s, I i s → wpAny (model prog w) A.in1 (eqBool items[i] x) (fun r s' => (r = true ∧ Y s') ∨ (r = false ∧ I (i + 1) s')) (fun e s' => R (.error e) s') s)
    (fin : ∀ s, I items.size s → R (.ok (.ret (.bool false))) s) (yes : ∀ s, Y s → R (.ok (.ret (.bool true))) s) {s : Shared} (hg : s.heap.get? l = some { cls := .type "tuple", dict := dd, data := .seq items n, slots := sl }) (h : I 0 s) :
    wpAny (model prog w) A.in1 (Builtin.«tuple.__contains__» ⟨[.ref l, x], []⟩) (GQ.FinOf prog w A R) (fun e s' => R (.error e) s') s := by
  have h0 := h
  obtain ⟨hp, g, d, tk, os⟩ := s
  wp_walk using wpAny_loadPart' hg, wpAny_forIn_array _ (fun rest b s' => b.1 = none ∧ ∃ i, rest = items.toList.drop i ∧ i ≤ items.size ∧ I i s') _
  case turn =>
    rintro y rest b s' ⟨hb', i, hz, hi, hI⟩
    have hlt : i < items.size := by
      rcases Nat.lt_or_ge i items.size with h' | h'
      · exact h'
      · rw [List.drop_of_length_le (by simpa using h')] at hz; cases hz
    rw [List.drop_eq_getElem_cons (by simpa using hlt)] at hz
    injection hz with hy hrest
    have hy : y = items[i] := by simpa using hy
    subst hy
    refine wpAny_bind (wpAny_mono (turn i hlt s' hI) (fun r s2 q2 => ?_) fun _ _ x => x)
    rcases q2 with ⟨hr, q2⟩ | ⟨hr, q2⟩
    · subst hr
      have hR := yes s2 q2
      wp_walk
      simpa using hR
    · subst hr
      wp_walk
      exact ⟨rfl, i + 1, hrest, hlt, q2⟩
  case fin =>
    rintro ⟨b1, b2⟩ s' ⟨hb', i, hz, hi, hI⟩
    simp only at hb'
    subst hb'
    have hge : items.size ≤ i := by
      rcases Nat.lt_or_ge i items.size with h' | h'
      · rw [List.drop_eq_getElem_cons (by simpa using h')] at hz; cases hz
      · exact h'
    have hi' : i = items.size := Nat.le_antisymm hi hge
    have hR := fin s' (hi' ▸ hI)
    wp_walk
    simpa using hR
  case h =>
    exact ⟨rfl, 0, rfl, Nat.zero_le _, h0⟩
theorem in_of {prog : Program} {w : World} {A : Around} {E : Value → Shared → Prop} {s : Shared} {T id : String} {B : Builtin} {c x : Value} {Q : Value → Shared → Prop} (neg : Bool) (hT : s.TypeIs c T) (slot : Slot T "__contains__" id) (entry : entryFor table id = some B) (args : argsOk id ⟨[c, x], []⟩)
    (h : wpAny (model prog w) A.in1 (B ⟨[c, x], []⟩) (GQ.FinOf prog w A (wants (fun v s' => ∃ b, v = .bool b ∧ Q (.bool (if neg then !b else b)) s') E)) (fun e s' => wants (fun v s' => ∃ b, v = .bool b ∧ Q (.bool (if neg then !b else b)) s') E (.error e) s') s) :
    wpAny (model prog w) A (compareOp (if neg then .NotIn else .In) x c) Q E s := by
  have g : wpAny (model prog w) A (contains c x) (fun b s' => Q (.bool (if neg then !b else b)) s') E s := wpAny_contains_slot hT slot (wpAny_mono (GQ.call_here slot hT entry args h) (fun v s' hv => by
    obtain ⟨b, rfl, hq⟩ := hv
    exact wpAny_truthy_bool hq) fun _ _ e => e)
  cases neg with
  | true =>
    show wpAny _ A (do return .bool (!(← contains c x))) Q E s
    exact wpAny_bind (wpAny_mono g (fun b s' q => wpAny_pure q) fun _ _ e => e)
  | false =>
    show wpAny _ A (do return .bool (← contains c x)) Q E s
    exact wpAny_bind (wpAny_mono g (fun b s' q => wpAny_pure q) fun _ _ e => e)
/-- x in y, y a list or a tuple, by what == says of its items -/
def rInS (K : PySem.W.Frag) (ca : Nat → Addr) (neg : Bool) (S : Dat → Dat → Prop) : R2 := fun x y H Q => ∃ (po : Option (Addr × Addr)) (F : Addr → Prop) (d : Dat) (ds : List Dat), Okk ⟨K, ca, po⟩ F H ∧ Rv ⟨K, ca, po⟩ F H x d ∧ ((∃ (a : Addr) (vs : List V), y = .ref a ∧ H a = some (.lst vs) ∧ NPo ⟨K, ca, po⟩ a ∧ RvAll ⟨K, ca, po⟩ F H vs ds) ∨ Rv ⟨K, ca, po⟩ F H y (.tup ds)) ∧ (∀ e ∈ ds, S e d) ∧
  ∀ (b : Bool) F' H', (b = true ↔ d ∈ ds) → Ext ⟨K, ca, po⟩ F H F' H' → Q (.bl (if neg then !b else b)) H'
theorem op_inS {X : Cx} {ca : Nat → Addr} {n : Nat} {S : Dat → Dat → Prop} (neg : Bool) (h : EqS X ca n S) (hr : Room (n + 1) X.A) : OpR X (compareOp (if neg then .NotIn else .In)) (rInS X.K ca neg S) := by
  intro pins s σ H x y v u Q I rx ry hq
  obtain ⟨po, F, d, ds, ok, r1, r2, hs, q⟩ := hq
  have sb : L2.Sub X (n + 1) X.A := ⟨hr, rfl⟩
  rcases r2 with ⟨a, vs, rfl, hA, np, rr⟩ | r2
  · cases ry
    have keepL : ∀ {F' : Addr → Prop} {H' : Hp}, Ext ⟨X.K, ca, po⟩ F H F' H' → H' a = some (.lst vs) := fun x => x.kp a _ hA np
    obtain ⟨z, its, n0, r, hl, e⟩ := I.lstM hA
    refine in_of neg ⟨_, e, rfl⟩ PySem.F.slot_list_contains PySem.F.entry_list_contains (PySem.F.args_list_contains_2 _ _) ?_
    refine cnt_list (N := ds.length) (fun i s' => ∃ F' H', Inv X pins σ H' s' ∧ Ext ⟨X.K, ca, po⟩ F H F' H' ∧ ∀ j e, j < i → ds[j]? = some e → e ≠ d) (fun s' => ∃ F' H', Inv X pins σ H' s' ∧ Ext ⟨X.K, ca, po⟩ F H F' H' ∧ d ∈ ds) (fun i s' ⟨F1, H1, I1, x1, hj⟩ => ?_) (fun s' ⟨F1, H1, I1, x1, hj⟩ => ?_) (fun s' ⟨F1, H1, I1, x1, hj⟩ => ?_) ⟨F, H, I, .refl ok, fun j e hj => absurd hj (Nat.not_lt_zero j)⟩
    · obtain ⟨z, its, n0, r, hl, e⟩ := I1.lstM (keepL x1)
      have l1 : its.length = ds.length := by rw [← r.length, rr.length]
      refine ⟨its.toArray, n0, e, by rw [List.size_toArray, l1], fun h1 => ?_⟩
      have k1 : i < vs.length := by rw [r.length]; simpa using h1
      obtain ⟨u, hu, ru⟩ := r.get (List.getElem?_eq_getElem k1)
      have g1 : its[i]? = some its.toArray[i] := by
        have h1' : i < its.length := by simpa using h1
        rw [List.getElem?_eq_getElem h1'] <;> simp
      rw [g1] at hu
      rw [Option.some.inj hu]
      obtain ⟨d1, a1, b1⟩ := rr.getV (List.getElem?_eq_getElem k1)
      refine wpAny_mono (h po X.A.in1 pins s' σ F1 H1 _ _ d1 d _ _ sb.in1 I1 ru rx x1.ok (b1.sub (x1.sub ok)) (r1.sub (x1.sub ok)) (hs d1 (List.mem_of_getElem? a1))) (fun rb s2 q2 => ?_) fun _ _ x => x
      obtain ⟨hb, F2, H2, I2, x2⟩ := q2
      cases rb with
      | true => exact .inl ⟨rfl, F2, H2, I2, x1.trans ok x2, by rw [← hb.mp rfl]; exact List.mem_of_getElem? a1⟩
      | false =>
        refine .inr ⟨rfl, F2, H2, I2, x1.trans ok x2, fun j e lt he => ?_⟩
        by_cases z : j = i
        · subst z
          rw [a1] at he
          cases he
          exact fun z => absurd (hb.mpr z) (by decide)
        · exact hj j e (by omega) he
    · exact ⟨false, rfl, .bl _, H1, I1, rfl, q false F1 H1 ⟨fun z => (by cases z), fun z => by
        obtain ⟨j, e⟩ := List.mem_iff_getElem?.mp z
        exact absurd rfl (hj j d (List.getElem?_eq_some_iff.mp e).1 e)⟩ x1⟩
    · exact ⟨true, rfl, .bl _, H1, I1, rfl, q true F1 H1 ⟨fun _ => hj, fun _ => rfl⟩ x1⟩
  · cases r2 with
    | @tup a vs _ hA rr =>
      cases ry
      obtain ⟨its, r, e, z⟩ := I.tuple hA.sq
      have l1 : its.length = ds.length := by rw [← r.length, rr.length]
      obtain ⟨⟨cls, dd, data, sl⟩, ho, hc, n0, hd⟩ := id e
      simp only at hc hd
      subst hc hd
      refine in_of neg ⟨_, ho, rfl⟩ PySem.F.slot_tuple_contains PySem.F.entry_tuple_contains (PySem.F.args_tuple_contains_2 _ _) ?_
      refine cnt_tuple (fun i s' => ∃ F' H', Inv X pins σ H' s' ∧ Ext ⟨X.K, ca, po⟩ F H F' H' ∧ ∀ j e, j < i → ds[j]? = some e → e ≠ d) (fun s' => ∃ F' H', Inv X pins σ H' s' ∧ Ext ⟨X.K, ca, po⟩ F H F' H' ∧ d ∈ ds) (fun i h1 s' ⟨F1, H1, I1, x1, hj⟩ => ?_) (fun s' ⟨F1, H1, I1, x1, hj⟩ => ?_) (fun s' ⟨F1, H1, I1, x1, hj⟩ => ?_) ho ⟨F, H, I, .refl ok, fun j e hj => absurd hj (Nat.not_lt_zero j)⟩
      · have k1 : i < vs.length := by rw [r.length]; simpa using h1
        obtain ⟨u, hu, ru⟩ := r.get (List.getElem?_eq_getElem k1)
        have g1 : its[i]? = some its.toArray[i] := by
          have h1' : i < its.length := by simpa using h1
          rw [List.getElem?_eq_getElem h1'] <;> simp
        rw [g1] at hu
        rw [Option.some.inj hu]
        obtain ⟨d1, a1, b1⟩ := rr.getV (List.getElem?_eq_getElem k1)
        refine wpAny_mono (h po X.A.in1 pins s' σ F1 H1 _ _ d1 d _ _ sb.in1 I1 ru rx x1.ok (b1.sub (x1.sub ok)) (r1.sub (x1.sub ok)) (hs d1 (List.mem_of_getElem? a1))) (fun rb s2 q2 => ?_) fun _ _ x => x
        obtain ⟨hb, F2, H2, I2, x2⟩ := q2
        cases rb with
        | true => exact .inl ⟨rfl, F2, H2, I2, x1.trans ok x2, by rw [← hb.mp rfl]; exact List.mem_of_getElem? a1⟩
        | false =>
          refine .inr ⟨rfl, F2, H2, I2, x1.trans ok x2, fun j e lt he => ?_⟩
          by_cases z : j = i
          · subst z
            rw [a1] at he
            cases he
            exact fun z => absurd (hb.mpr z) (by decide)
          · exact hj j e (by omega) he
      · rw [List.size_toArray, l1] at hj
        exact ⟨false, rfl, .bl _, H1, I1, rfl, q false F1 H1 ⟨fun z => (by cases z), fun z => by
          obtain ⟨j, e⟩ := List.mem_iff_getElem?.mp z
          exact absurd rfl (hj j d (List.getElem?_eq_some_iff.mp e).1 e)⟩ x1⟩
      · exact ⟨true, rfl, .bl _, H1, I1, rfl, q true F1 H1 ⟨fun _ => hj, fun _ => rfl⟩ x1⟩
def kInS (neg : Bool) (S : Dat → Dat → Prop) : Dat → Dat → (Dat → Prop) → Prop := fun d y P => sQ y fun ds => (∀ e ∈ ds, S e d) ∧ ∀ b : Bool, (b = true ↔ d ∈ ds) → P (.bl (if neg then !b else b))
theorem rok_inS {K : PySem.W.Frag} {ca : Nat → Addr} {po : Option (Addr × Addr)} {S : Dat → Dat → Prop} {neg : Bool} : ROk ⟨K, ca, po⟩ Rv Pk Rv (rInS K ca neg S) (kInS neg S) := fun F H x y d e Q P ok r1 r2 q k => by
  cases e with
  | lst xs =>
    obtain ⟨a, vs, rfl, hA, np, rr⟩ := r2.lst ok
    obtain ⟨hs, q⟩ := (show (∀ e ∈ xs, S e d) ∧ _ from q)
    exact ⟨po, F, d, xs, ok, r1, .inl ⟨a, vs, rfl, hA, np, rr⟩, hs, fun b F' H' hb ex => k _ F' H' _ (q b hb) ex (.bl _)⟩
  | tup xs =>
    obtain ⟨hs, q⟩ := (show (∀ e ∈ xs, S e d) ∧ _ from q)
    cases r2 with
    | rv r2 => exact ⟨po, F, d, xs, ok, r1, .inr r2, hs, fun b F' H' hb ex => k _ F' H' _ (q b hb) ex (.bl _)⟩
  | _ => exact (show False from q).elim
/-- data that can be laid out, by == -/
def layS : Dat → Dat → Prop := fun d e => okE 64 d ∧ okE 64 e
theorem lay_eqS {X : Cx} {ca : Nat → Addr} : EqS X ca 1 layS := by
  intro po A pins s σ F H x y d e u v sb I rx ry ok r1 r2 hs
  obtain ⟨as, q1⟩ := Dp.reads I (pyD d) x u (lay_dp r1 hs.1.1) rx
  obtain ⟨bs, q2⟩ := Dp.reads I (pyD e) y v (lay_dp r2 hs.2.1) ry
  refine SeqAt.eqAt_reads (pyD d) (pyD e) A s u v as bs q1 q2 (SeqAt.canLay_of_shaped (okE_sh hs.1)) (SeqAt.canLay_of_shaped (okE_sh hs.2)) (SeqAt.room_of_shaped (okE_sh hs.1) sb.room.units) X.prog X.w X.xe _ ⟨lay_eqv d e hs.1.1 hs.2.1, F, H, I, .refl ok⟩
theorem op_inL {X : Cx} {ca : Nat → Addr} {j : Nat} (hr : Room j X.A) (hk : 2 ≤ j) : OpR X (compareOp .In) (rInS X.K ca false layS) := op_inS false lay_eqS (hr.mono hk)
end
theorem dicT_len {H : Hp} {P : Program} {w : World} {h : Heap} {a : Addr} {xs : List (List Int × Addr × Value)} (ok : HOk P w H h) (e : H a = some (dicT a xs)) : (a == sysModules) = false ∧ xs.length ≤ sizeLine := (ok a _ e).1.1
theorem itemsI {P : Program} {w : World} : ∀ {ks : List Int} {us : List Value}, Vals (ks.map V.int) us → ItemsAre (intKind P w) ks us
  | [], _, r => by
    cases r
    exact .nil
  | k :: ks, _, r => by
    rw [List.map_cons] at r
    cases r with
    | cons h t =>
      obtain ⟨tk, e⟩ := (show ∃ t, _ = Value.int k t from h)
      subst e
      exact .cons (by show Value.isInt k (.int k tk) = true; simp [Value.isInt]) (itemsI t)
/-- the object of a key -/
abbrev KyT (H : Hp) (b : Addr) (k : List Int) : Prop := Rd H b (.tup (k.map V.int))
theorem keyI {P : Program} {w : World} {H : Hp} {h : Heap} {b : Addr} {k : List Int} (ok : HOk P w H h) (e : KyT H b k) : (tupleKind (intKind P w)).is h k b := by
  obtain ⟨_, its, r, o, h1, h2, n, h3⟩ := (show ObjOk P w H h b (.tup (k.map V.int)) from e.ok ok)
  exact ⟨o, its.toArray, n, h1, h2, h3, by simpa using itemsI r⟩
theorem dicT_of {P : Program} {w : World} {H : Hp} {h : Heap} {a : Addr} {xs : List (List Int × Addr × Value)} (ok : HOk P w H h) (e : H a = some (dicT a xs)) (hk : ∀ x ∈ xs, KyT H x.2.1 x.1) : h.DictOfH (tupleKind (intKind P w)) a xs := by
  obtain ⟨_, o, es, ep, h1, h2, h3, h4, h5⟩ := (ok a _ e).1
  exact ⟨o, es, ep, h1, h2, h3, h4, fun x hx => keyI ok (hk x hx), h5⟩
def tTGet (td ty : TE) : TE := fun σ H Q => td σ H fun x H1 => ty σ H1 fun y H2 => ∃ a xs b k p v, x = .ref a ∧ y = .ref b ∧ H2 a = some (dicT a xs) ∧ (∀ x ∈ xs, KyT H2 x.2.1 x.1) ∧ KyT H2 b k ∧ atKey xs k = some p ∧ RelV v p.2 ∧ Q v H2
def tTIn (n : Bool) (ty td : TE) : TE := fun σ H Q => ty σ H fun y H1 => td σ H1 fun x H2 => ∃ a xs b k, x = .ref a ∧ y = .ref b ∧ H2 a = some (dicT a xs) ∧ (∀ x ∈ xs, KyT H2 x.2.1 x.1) ∧ KyT H2 b k ∧ Q (.bl (if n then !(atKey xs k).isSome else (atKey xs k).isSome)) H2
def sTPut (td ty tv : TE) : TS := fun D σ H => tv σ H fun v H1 => td σ H1 fun x H2 => ty σ H2 fun y H3 => ∃ a xs b k, x = .ref a ∧ y = .ref b ∧ H3 a = some (dicT a xs) ∧ (∀ x ∈ xs, KyT H3 x.2.1 x.1) ∧ KyT H3 b k ∧ xs.length < sizeLine ∧ ∀ u, RelV v u → (xs.map (·.1)).Nodup → D.nx σ (upd H3 a (dicT a (storedH xs k b u)))
def tTNew : TE := fun _ H Q => ∀ p, H p = none → Q (.ref p) (upd H p (dicT p []))
theorem storedH_le {xs : List (List Int × Addr × Value)} {k : List Int} {b : Addr} {u : Value} : (storedH xs k b u).length ≤ xs.length + 1 := by
  unfold storedH
  split
  · rw [List.length_map]
    omega
  · rw [List.length_append, List.length_singleton]
    omega
section
variable {X : Cx} {o i value : Expr} {pos pos' : Pos} {td ty tv : TE}
theorem pe_tget (hu : X.A.units + 1 < cLine) (ho : PE X o td) (hi : PE X i ty) (hs : NoSl i) : PE X (.Subscript o i pos) (tTGet td ty) := by
  refine ⟨fun pins s σ H Q I h => ?_⟩
  refine subD_of PySem.F.slot_dict_getitem.lookup hs (thn (ho.run pins s σ H _ I h) fun u s1 ⟨x, H1, I1, rx, q1⟩ => thn (hi.run pins s1 σ H1 _ I1 q1) fun iv s2 ⟨y, H2, I2, ry, a, xs, b, k, p, v, ex, ey, e, hk, eb, l, rv, q2⟩ => ?_)
  subst ex ey
  obtain rfl : u = Value.ref a := rx
  obtain rfl : iv = Value.ref b := ry
  have dd := dicT_of I2.hok e hk
  exact ⟨dd.typeIs, wpAny_getItem_heap (tupleKind_room_in1 hu) (keyI I2.hok eb) dd l ⟨v, H2, I2.tok _, rv, q2⟩⟩
theorem pc_tin (hu : X.A.units + 1 < cLine) (hi : PE X i ty) (ho : PE X o td) : PC X .In i o (tTIn false ty td) := by
  refine ⟨fun pins s σ H Q I h => ?_⟩
  refine thn (hi.run pins s σ H _ I h) fun iv s1 ⟨y, H1, I1, ry, q1⟩ => thn (ho.run pins s1 σ H1 _ I1 q1) fun u s2 ⟨x, H2, I2, rx, a, xs, b, k, ex, ey, e, hk, eb, q2⟩ => ?_
  subst ex ey
  obtain rfl : u = Value.ref a := rx
  obtain rfl : iv = Value.ref b := ry
  exact wpAny_in_heap (tupleKind_room_in1 hu) (keyI I2.hok eb) (dicT_len I2.hok e).1 (dicT_of I2.hok e hk) ⟨.bl _, H2, I2.tok _, rfl, q2⟩
theorem ps_tput (hu : X.A.units + 1 < cLine) (ho : PE X o td) (hi : PE X i ty) (hv : PE X value tv) (hs : swapsWith value (some (.Subscript o i pos')) pos.line X.env = pure false) :
    PS X (.Assign [.Subscript o i pos'] value pos) (sTPut td ty tv) := by
  refine ⟨fun pins s σ H D I h => ?_⟩
  refine wpAny_Assign_Subscript (thn (hv.run pins s σ H _ I h) fun r s1 ⟨v, H1, I1, rv, q1⟩ => thn (ho.run pins s1 σ H1 _ I1 q1) fun u s2 ⟨x, H2, I2, rx, q2⟩ => thn (hi.run pins s2 σ H2 _ I2 q2) fun iv s3 ⟨y, H3, I3, ry, a, xs, b, k, ex, ey, e, hk, eb, hl, q3⟩ => ?_) hs
  subst ex ey
  obtain rfl : u = Value.ref a := rx
  obtain rfl : iv = Value.ref b := ry
  refine wpAny_setItem_heap (hsz := Nat.le_of_lt hl) (tupleKind_room_in1 hu) (keyI I3.hok eb) (dicT_of I3.hok e hk) fun h' dd' hs => ⟨σ, _, ?_, q3 r rv (I3.hok a _ e).1.2.choose_spec.choose_spec.choose_spec.2.2.2.2⟩
  obtain ⟨q, es, ep, hq, h2, h3, h4, _, h5⟩ := dd'
  refine d_write I3 (by rw [e]; exact True.intro) hs ⟨q, hq⟩ ⟨⟨⟨(dicT_len I3.hok e).1, Nat.le_trans storedH_le hl⟩, q, es, ep, hq, h2, h3, h4, h5⟩, ⟨q, hq⟩, fun h1 h2 ⟨z, o, es, ep, y1, y2⟩ hkeep => ⟨z, o, es, ep, hkeep o y1, y2⟩⟩
theorem pe_tnew : PE X (.Dict [] [] pos) tTNew := ⟨fun pins s σ H Q I h =>
  wpAny_Dict_empty ⟨.ref s.heap.objs.size, _, I.laid (a := s.heap.objs.size) (o := dicT s.heap.objs.size []) (t' := s.toks) (fun _ _ q => Heap.get?_push_of_some _ q) (Nat.le_refl _)
    ⟨⟨⟨beq_eq_false_iff_ne.mpr (Ne.symm (Nat.ne_of_lt I.big)), Nat.zero_le _⟩, _, #[], 0, Heap.get?_push_size _ rfl, ⟨rfl, rfl, rfl⟩, rfl, rfl, List.nodup_nil⟩, ⟨_, Heap.get?_push_size _ rfl⟩, fun h1 h2 ⟨z, o, es, ep, y1, y2⟩ hkeep => ⟨z, o, es, ep, hkeep o y1, y2⟩⟩, rfl, h _ (I.hok.fresh (Nat.le_refl _))⟩⟩
end
def dgT : List (List Int) → List Dat → List Int → Option Dat
  | k :: ks, d :: ds, j => if k = j then some d else dgT ks ds j
  | _, _, _ => none
def intsD : List Dat → Option (List Int)
  | [] => some []
  | .int i :: xs => (intsD xs).map (i :: ·)
  | _ :: _ => none
def ktQ : Dat → (List Int → Prop) → Prop
  | .tup xs, P => oI (intsD xs) P
  | _, _ => False
where oI : Option (List Int) → (List Int → Prop) → Prop
  | some k, P => P k
  | none, _ => False
def dTQ : Dat → (List (List Int) → List Dat → Prop) → Prop
  | .dT ks ds, P => P ks ds
  | _, _ => False
section
variable {W : Wd} {H0 : Hp} {ta tb : TE} {ea eb : AEx} {F : Addr → Prop} {H : Hp}
theorem intsD_eq : ∀ {xs : List Dat} {ks : List Int}, intsD xs = some ks → xs = ks.map Dat.int
  | [], ks, e => by
    cases e
    rfl
  | .int i :: xs, ks, e => by
    have e : (intsD xs).map (i :: ·) = some ks := e
    cases g : intsD xs with
    | none =>
      rw [g] at e
      cases e
    | some ls =>
      rw [g] at e
      cases e
      rw [List.map_cons, ← intsD_eq g]
  | .non :: _, _, e => by cases e
  | .bl _ :: _, _, e => by cases e
  | .str _ :: _, _, e => by cases e
  | .pool :: _, _, e => by cases e
  | .lst _ :: _, _, e => by cases e
  | .tup _ :: _, _, e => by cases e
  | .obj _ _ :: _, _, e => by cases e
  | .dK _ :: _, _, e => by cases e
  | .dT _ _ :: _, _, e => by cases e
  | .rng _ _ :: _, _, e => by cases e
  | .cell _ :: _, _, e => by cases e
theorem FzT.ky {b : Addr} {k : List Int} (h : FzT W F H b (k.map V.int)) : KyT H b k := by
  obtain ⟨_, o, e, ob, _, rfl⟩ := h
  exact .inr ⟨ob, e⟩
theorem ktQ_at {v : V} {d : Dat} {P : List Int → Prop} (h : ktQ d P) (r : Rv W F H v d) : ∃ b k, v = .ref b ∧ FzT W F H b (k.map V.int) ∧ d = .tup (k.map .int) ∧ P k := by
  cases r with
  | @tup b vs ds f r =>
    have h2 : ktQ.oI (intsD ds) P := h
    clear h
    cases g : intsD ds with
    | none =>
      rw [g] at h2
      exact h2.elim
    | some k =>
      rw [g] at h2
      obtain rfl := intsD_eq g
      obtain rfl := r.ints
      exact ⟨b, k, rfl, f, rfl, h2⟩
  | _ => exact (show False from h).elim
theorem dT_get : ∀ {xs : List (List Int × Addr × Value)} {vs : List V} {ds : List Dat} {k : List Int} {d : Dat}, Vals vs (xs.map (·.2.2)) → RvAll W F H vs ds → dgT (xs.map (·.1)) ds k = some d → ∃ p v, atKey xs k = some p ∧ RelV v p.2 ∧ Rv W F H v d
  | [], _, _, _, _, _, _, e => by cases e
  | x :: xs, _, _, k, d, .cons a t, .cons b r, e => by
    have e : (if x.1 = k then some _ else dgT (xs.map (·.1)) _ k) = some d := e
    by_cases z : x.1 = k
    · rw [if_pos z] at e
      cases e
      exact ⟨x.2, _, by simp [atKey, List.find?_cons, z], a, b⟩
    · rw [if_neg z] at e
      obtain ⟨p, v, h1, h2⟩ := dT_get t r e
      exact ⟨p, v, by rw [show atKey (x :: xs) k = atKey xs k by simp [atKey, List.find?_cons, z]]; exact h1, h2⟩
theorem dT_some : ∀ {xs : List (List Int × Addr × Value)} {vs : List V} {ds : List Dat} {k : List Int}, Vals vs (xs.map (·.2.2)) → RvAll W F H vs ds → (atKey xs k).isSome = (dgT (xs.map (·.1)) ds k).isSome
  | [], _, _, _, _, _ => rfl
  | x :: xs, _, _, k, .cons a t, .cons b r => by
    rw [List.map_cons]
    by_cases z : x.1 = k
    · simp [atKey, List.find?_cons, z, dgT]
    · rw [show atKey (x :: xs) k = atKey xs k by simp [atKey, List.find?_cons, z], dT_some t r]
      simp [dgT, z]
def kTGet (x y : Dat) (P : Dat → Prop) : Prop := dTQ x fun ks ds => ktQ y fun k => oQ (dgT ks ds k) P
theorem a_tget (ha : AExp W H0 ta ea) (hb : AExp W H0 tb eb) : AExp W H0 (tTGet ta tb) (a2 kTGet ea eb) := ⟨fun σ env F H Q P ok m q k => ha.run σ env F H _ _ ok m q fun d F1 H1 v p1 x1 r1 => hb.run σ env F1 H1 _ _ x1.ok (m.ext ok x1) p1 fun e F2 H2 u p2 x2 r2 => by
  have r1' := r1.sub (x2.sub x1.ok)
  cases r1' with
  | @dT a xs vs ks ds f h ek g l r =>
    obtain ⟨b, j, rfl, fb, rfl, p3⟩ := ktQ_at (show ktQ e _ from p2) r2
    clear p2
    cases gg : dgT ks ds j with
    | none =>
      rw [gg] at p3
      exact p3.elim
    | some z =>
      rw [gg] at p3
      subst ek
      obtain ⟨p, w, e1, e2, e3⟩ := dT_get l r gg
      exact ⟨a, xs, b, j, p, w, rfl, rfl, h, fun x hx => (g x hx).ky, fb.ky, e1, e2, k z F2 H2 w p3 (x1.trans ok x2) e3⟩
  | _ => exact (show False from p2).elim⟩
def aTIn (n : Bool) (ek ed : AEx) : AEx := fun env P => ek env fun y => ed env fun x => dTQ x fun ks ds => ktQ y fun k => P (.bl (if n then !(dgT ks ds k).isSome else (dgT ks ds k).isSome))
theorem a_tin {n : Bool} (hk : AExp W H0 ta ea) (hd : AExp W H0 tb eb) : AExp W H0 (tTIn n ta tb) (aTIn n ea eb) := ⟨fun σ env F H Q P ok m q k => hk.run σ env F H _ _ ok m q fun y F1 H1 u p1 x1 r1 => hd.run σ env F1 H1 _ _ x1.ok (m.ext ok x1) p1 fun d F2 H2 v p2 x2 r2 => by
  cases r2 with
  | @dT a xs vs ks ds f h ek g l r =>
    obtain ⟨b, j, rfl, fb, rfl, p3⟩ := ktQ_at (show ktQ y _ from p2) (r1.sub (x2.sub x1.ok))
    clear p2
    subst ek
    exact ⟨a, xs, b, j, rfl, rfl, h, fun x hx => (g x hx).ky, fb.ky, k _ F2 H2 _ (by rw [dT_some l r]; exact p3) (x1.trans ok x2) (.bl _)⟩
  | _ => exact (show False from p2).elim⟩
end
theorem ktQ_2 {i j : Int} {P : List Int → Prop} : ktQ (.tup [.int i, .int j]) P = P [i, j] := rfl
theorem dTQ_d {ks : List (List Int)} {ds : List Dat} {P : List (List Int) → List Dat → Prop} : dTQ (.dT ks ds) P = P ks ds := rfl
def dtQ (o : Option Ce) (P : List (List Int) → List Dat → Prop) : Prop := match o with
  | some (.dT ks ds) => P ks ds
  | _ => False
theorem dtQ_at {o : Option Ce} {P : List (List Int) → List Dat → Prop} (h : dtQ o P) : ∃ ks ds, o = some (.dT ks ds) ∧ P ks ds := by
  cases o with
  | none => exact h.elim
  | some c =>
    cases c with
    | dT ks ds => exact ⟨ks, ds, rfl, h⟩
    | _ => exact h.elim
theorem dtQ_d {ks : List (List Int)} {ds : List Dat} {P : List (List Int) → List Dat → Prop} : dtQ (some (.dT ks ds)) P = P ks ds := rfl
/-- an entry put: at its place, or at the end -/
def putTK (ks : List (List Int)) (k : List Int) : List (List Int) := if k ∈ ks then ks else ks ++ [k]
def putTD : List (List Int) → List Dat → List Int → Dat → List Dat
  | k :: ks, d :: ds, j, e => if k = j then e :: ds else d :: putTD ks ds j e
  | _, _, _, e => [e]
def bTNew : BEx := fun _ M _ P => ∀ p, M p = none → P (.cell p) (M.put p (some (.dT [] [])))
def zTPut (ev eo ek : BEx) : BSt := fun D env M => ev env M (D.ex env) fun d M1 => eo env M1 (D.ex env) fun x M2 => ek env M2 (D.ex env) fun y M3 => ceQ x fun a => ktQ y fun k => dtQ (M3 a) fun ks ds => ks.length < 1000 ∧ D.nx env (M3.put a (some (.dT (putTK ks k) (putTD ks ds k d))))
section
variable {W : Wd} {H0 : Hp} {E : XS} {te to tk tv : TE} {eo ek ea : BEx}
theorem b_tnew : BExp W H0 E tTNew bTNew := ⟨fun σ env F H M Q P X c q k => by
  intro p hp
  have m0 := c.st.new hp
  have xl := (Ext.lay (o := dicT p []) c.st.ok hp).ex2 c.st
  have np := c.st.ok.pne hp
  have nf : ¬ F p := fun f => c.st.ok.tr p f hp
  refine k (.cell p) F _ (.ref p) _ (q p m0) ⟨xl.up, xl.dn, xl.kp, xl.al, fun b hb => ?_, xl.ok.new_cell nf m0 np ⟨[], [], upd_same, rfl, fun x hx => (by cases hx), .nil, .nil⟩⟩ (.cell p)
  by_cases z : b = p
  · rw [z]
    exact .inr hp
  · rw [Sto.put_n z] at hb
    exact .inl hb⟩
theorem stH_keys {xs : List (List Int × Addr × Value)} {k : List Int} {b : Addr} {u : Value} : (storedH xs k b u).map (·.1) = putTK (xs.map (·.1)) k := by
  have e : (atKey xs k).isSome = true ↔ k ∈ xs.map (·.1) := by
    unfold atKey
    rw [Option.isSome_map, List.find?_isSome, List.mem_map]
    constructor
    · rintro ⟨x, hx, e⟩
      exact ⟨x, hx, of_decide_eq_true e⟩
    · rintro ⟨x, hx, e⟩
      exact ⟨x, hx, decide_eq_true e⟩
  unfold storedH putTK
  by_cases z : (atKey xs k).isSome = true
  · rw [if_pos z, if_pos (e.mp z), List.map_map]
    refine List.map_congr_left fun x _ => ?_
    show (putAt k u x).1 = x.1
    unfold putAt
    split <;> rfl
  · rw [if_neg z, if_neg fun h => z (e.mpr h), List.map_append]
    rfl
theorem stH_vals {F : Addr → Prop} {H : Hp} {k : List Int} {b : Addr} {u : Value} {v : V} {d : Dat} (a : RelV v u) (rd : Rv W F H v d) : ∀ {xs : List (List Int × Addr × Value)} {vs : List V} {ds : List Dat}, (xs.map (·.1)).Nodup → Vals vs (xs.map (·.2.2)) → RvAll W F H vs ds → ∃ ws, Vals ws ((storedH xs k b u).map (·.2.2)) ∧ RvAll W F H ws (putTD (xs.map (·.1)) ds k d)
  | [], _, _, _, .nil, .nil => ⟨[v], .cons a .nil, .cons rd .nil⟩
  | x :: xs, _, _, nd, .cons a1 t, .cons b1 r => by
    rw [List.map_cons, List.nodup_cons] at nd
    by_cases z : x.1 = k
    · have e1 : storedH (x :: xs) k b u = (x.1, x.2.1, u) :: xs := by
        unfold storedH
        rw [if_pos (by simp [atKey, List.find?_cons, z]), List.map_cons]
        congr 1
        · unfold putAt
          rw [if_pos z]
        · refine (List.map_congr_left fun y hy => ?_).trans (List.map_id xs)
          unfold putAt
          rw [if_neg fun e => nd.1 (by rw [z, ← e]; exact List.mem_map.mpr ⟨y, hy, rfl⟩)]
          rfl
      rw [e1]
      refine ⟨_, .cons a t, ?_⟩
      show RvAll W F H _ (if x.1 = k then _ else _)
      rw [if_pos z]
      exact .cons rd r
    · obtain ⟨ws, h1, h2⟩ := stH_vals (k := k) (b := b) a rd nd.2 t r
      have e0 : atKey (x :: xs) k = atKey xs k := by simp [atKey, List.find?_cons, z]
      have e1 : storedH (x :: xs) k b u = x :: storedH xs k b u := by
        unfold storedH
        rw [e0]
        split
        · rw [List.map_cons]
          congr 1
          unfold putAt
          rw [if_neg z]
        · rfl
      rw [e1]
      refine ⟨_, .cons a1 h1, ?_⟩
      show RvAll W F H _ (if x.1 = k then _ else _)
      rw [if_neg z]
      exact .cons b1 h2
theorem stH_mem {xs : List (List Int × Addr × Value)} {k : List Int} {b : Addr} {u : Value} {P : Addr → List Int → Prop} (h : ∀ x ∈ xs, P x.2.1 x.1) (hb : P b k) : ∀ x ∈ storedH xs k b u, P x.2.1 x.1 := by
  intro x hx
  unfold storedH at hx
  split at hx
  · obtain ⟨y, hy, rfl⟩ := List.mem_map.mp hx
    have : (putAt k u y).2.1 = y.2.1 ∧ (putAt k u y).1 = y.1 := by
      unfold putAt
      split <;> exact ⟨rfl, rfl⟩
    rw [this.1, this.2]
    exact h y hy
  · rcases List.mem_append.mp hx with hx | hx
    · exact h x hx
    · obtain rfl := List.mem_singleton.mp hx
      exact hb
theorem z_tput (hv : ∀ H0, BExp W H0 E tv ea) (ho : ∀ H0, BExp W H0 E to eo) (hk : ∀ H0, BExp W H0 E tk ek) : BStm W E (sTPut to tk tv) (zTPut ea eo ek) := ⟨fun F0 H0 M0 F1 H1 De Da σ env F H M cf k h => by
  refine (hv H0).run σ env F H M _ _ _ (cf.cfg k) h fun d Fa Ha v Ma p x rv => ?_
  have ca := cf.step x
  refine (ho H0).run σ env Fa Ha Ma _ _ _ (ca.cfg k) p fun o Fb Hb w Mb p x2 ro => ?_
  have cb := ca.step x2
  refine (hk H0).run σ env Fb Hb Mb _ _ _ (cb.cfg k) p fun y F' H' u M' p x3 ry => ?_
  have cc := cb.step x3
  cases o with
  | cell a =>
    have e := rv_cell (show Rv W Fb Hb w (.cell a) from ro)
    subst e
    obtain ⟨b, j, rfl, fb, rfl, p2⟩ := ktQ_at p ry
    clear p
    obtain ⟨ks, ds, hM, hl, p⟩ := dtQ_at p2
    obtain ⟨nf, np, xs, vs, hA, rfl, g, l, rr⟩ := x3.ok.at_ a _ hM
    have rv2 : Rv W F' H' v d := Rv.sub (x3.sub x2.ok) (Rv.sub (x2.sub x.ok) rv)
    rw [List.length_map] at hl
    refine ⟨a, xs, b, j, rfl, rfl, hA, fun x hx => (g x hx).ky, fb.ky, Nat.lt_of_lt_of_le hl (by rw [sizeLine_eq]; decide), fun uu ru nd => ?_⟩
    have sb : Sub F' H' F' (upd H' a (dicT a (storedH xs j b uu))) := fun c f => ⟨f, upd_ne (fun z => nf (by rw [← z]; exact f))⟩
    obtain ⟨ws, e1, e2⟩ := stH_vals (b := b) ru rv2 nd l rr
    have x4 := x3.ok.upd_cell (o := dicT a (storedH xs j b uu)) (c1 := .dT (putTK (xs.map (·.1)) j) (putTD (xs.map (·.1)) ds j d)) hM ⟨_, ws, upd_same, stH_keys.symm, fun x hx => (stH_mem (P := fun b k => FzT W F' H' b (k.map V.int)) g fb x hx).sub sb, e1, e2.sub sb⟩
    have c4 := cc.step x4
    exact k.nx _ _ _ _ _ c4.b c4.m p
  | _ => exact (show False from p).elim⟩
end
def kIsLT : Dat → (Dat → Prop) → Prop := fun d P => match d with
  | .lst _ => P (.bl true)
  | .tup _ => P (.bl true)
  | .non => P (.bl false)
  | .bl _ => P (.bl false)
  | .int _ => P (.bl false)
  | .str _ => P (.bl false)
  | _ => False
theorem kitLT {K : PySem.W.Frag} : ∀ n ∈ ["NoneType", "bool", "int", "str", "list", "tuple"], PySem.W.kitAny K (.type n) [.type "list", .type "tuple"] = some (decide (n = "list" ∨ n = "tuple")) := fun n hn => by
  have h1 := kit_ty (K := K) (kitB_all n hn "list" (by decide))
  have h2 := kit_ty (K := K) (kitB_all n hn "tuple" (by decide))
  simp only [List.mem_cons, List.mem_nil_iff, or_false] at hn
  rcases hn with rfl | rfl | rfl | rfl | rfl | rfl
  · exact kitAny_cons h1 (fun _ => kitAny_cons h2 (fun _ => rfl) (fun e => by revert e; decide)) (fun e => by revert e; decide)
  · exact kitAny_cons h1 (fun _ => kitAny_cons h2 (fun _ => rfl) (fun e => by revert e; decide)) (fun e => by revert e; decide)
  · exact kitAny_cons h1 (fun _ => kitAny_cons h2 (fun _ => rfl) (fun e => by revert e; decide)) (fun e => by revert e; decide)
  · exact kitAny_cons h1 (fun _ => kitAny_cons h2 (fun _ => rfl) (fun e => by revert e; decide)) (fun e => by revert e; decide)
  · exact kitAny_cons h1 (fun e => absurd e (by decide)) (fun _ => rfl)
  · exact kitAny_cons h1 (fun _ => kitAny_cons h2 (fun e => absurd e (by decide)) (fun _ => rfl)) (fun e => by revert e; decide)
theorem a_isLT {W : Wd} {H0 : Hp} {ta : TE} {ea : AEx} (ha : AExp W H0 ta ea) : AExp W H0 (tCB (rIsiT W.K) (tCons ta (tCons (tTup (tCons (tC (.ty "list")) (tCons (tC (.ty "tuple")) tNil))) tNil))) (a1 kIsLT ea) := ⟨fun σ env F H Q P ok m q k => ha.run σ env F H _ _ ok m q fun d F1 H1 v p1 x1 r1 => by
  refine ⟨Nat.le_of_lt (len_size (by decide)), fun tp hn => ?_⟩
  have x2 : Ext W F1 H1 F1 (upd H1 tp (.tup [V.ty "list", V.ty "tuple"])) := Ext.lay x1.ok hn
  have pc : Paired ClsV [V.ty "list", V.ty "tuple"] [.type "list", .type "tuple"] := .cons (.ty _) (.cons (.ty _) .nil)
  have up : ∀ {b : Addr} {o : HO}, H1 b = some o → upd H1 tp (.tup [V.ty "list", V.ty "tuple"]) b = some o := fun {b o} h => by rw [upd_ne (ne_of_none h hn)]; exact h
  cases r1 with
  | non => exact ⟨_, tp, _, _, _, _, rfl, upd_same, pc, .base .non, kitLT "NoneType" (by decide), k _ F1 _ _ p1 (x1.trans ok x2) (.bl _)⟩
  | bl b => exact ⟨_, tp, _, _, _, _, rfl, upd_same, pc, .base (.bl b), kitLT "bool" (by decide), k _ F1 _ _ p1 (x1.trans ok x2) (.bl _)⟩
  | int b => exact ⟨_, tp, _, _, _, _, rfl, upd_same, pc, .base (.int b), kitLT "int" (by decide), k _ F1 _ _ p1 (x1.trans ok x2) (.bl _)⟩
  | str b => exact ⟨_, tp, _, _, _, _, rfl, upd_same, pc, .base (.str b), kitLT "str" (by decide), k _ F1 _ _ p1 (x1.trans ok x2) (.bl _)⟩
  | lst f h r => exact ⟨_, tp, _, _, _, _, rfl, upd_same, pc, .base (.lst (up h)), kitLT "list" (by decide), k _ F1 _ _ p1 (x1.trans ok x2) (.bl _)⟩
  | tup h r =>
    obtain ⟨fa, o, ho, ob, hd, rfl⟩ := h
    exact ⟨_, tp, _, _, _, _, rfl, upd_same, pc, .fTuple (up ho), kitLT "tuple" (by decide), k _ F1 _ _ p1 (x1.trans ok x2) (.bl _)⟩
  | _ => exact (show False from p1).elim⟩
theorem kIsLT_l {xs : List Dat} {P : Dat → Prop} : kIsLT (.lst xs) P = P (.bl true) := rfl
theorem kIsLT_t {xs : List Dat} {P : Dat → Prop} : kIsLT (.tup xs) P = P (.bl true) := rfl
theorem kIsLT_i {i : Int} {P : Dat → Prop} : kIsLT (.int i) P = P (.bl false) := rfl
theorem kIsLT_s {i : Str} {P : Dat → Prop} : kIsLT (.str i) P = P (.bl false) := rfl
def gTupS (K : PySem.W.Frag) (n : Nat) (t : TGs) : TG := fun v σ H Q => ∃ a xs, v = .ref a ∧ SqT K H a xs ∧ n ≤ xs.length ∧ xs.length ≤ 10000 ∧ ∀ D, H D = none → t (xs.take n ++ [.ref D]) σ (upd H D (.lst (xs.drop n))) Q
theorem vals_take : ∀ {xs : List V} {us : List Value} (n : Nat), Vals xs us → Vals (xs.take n) (us.take n)
  | _, _, 0, _ => .nil
  | _, _, _ + 1, .nil => .nil
  | _, _, n + 1, .cons a r => .cons a (vals_take n r)
theorem vals_drop : ∀ {xs : List V} {us : List Value} (n : Nat), Vals xs us → Vals (xs.drop n) (us.drop n)
  | _, _, 0, r => r
  | _, _, _ + 1, .nil => .nil
  | _, _, n + 1, .cons _ r => vals_drop n r
theorem vals_snoc : ∀ {xs : List V} {us : List Value} {v : V} {u : Value}, Vals xs us → RelV v u → Vals (xs ++ [v]) (us ++ [u])
  | _, _, _, _, .nil, a => .cons a .nil
  | _, _, _, _, .cons b r, a => .cons b (vals_snoc r a)
theorem pg_tupS {X : Cx} {K : PySem.W.Frag} (hK : X.K = K) {es : List Expr} {k n : Nat} {pos : Pos} {t : TGs} (hc : X.calm = true) (h : PGs X es t) (hn : (assignEach es X.env).length = n + 1 := by rfl) (hst : (assignEach es X.env).findIdx? (·.1) = some n := by rfl) : PG X (.Tuple es k pos) (gTupS K n t) := by
  subst hK
  refine ⟨fun pins s σ H v u Q I r hw => ?_⟩
  obtain ⟨a, xs, e1, hq, hl, hl2, hw⟩ := hw
  subst e1
  cases r
  obtain ⟨its, rv, hT, hz⟩ := I.tuple hq
  have hh : X.A.handled = none := I.ok.hd hc
  have lv : its.length = xs.length := rv.length.symm
  rw [assign_Tuple]
  refine wpAny_bind (wpAny_standAt ?_)
  unfold unpack
  rw [hn, hst]
  refine wpAny_bind (wpAny_holding ?_)
  have hlt : a ≠ s.heap.objs.size := by obtain ⟨o, ho, _⟩ := hT; exact Nat.ne_of_lt (Heap.lt_size ho)
  have hsz : its.toArray.size = its.length := by simp
  unfold unpackItems
  refine wpAny_bind ?_
  unfold notIterableAtAll
  refine wpAny_bind (wpAny_specialOf hT.typeIs slot_tuple_iter.lookup ?_)
  refine wpAny_pure ?_
  simp only [Bool.false_eq_true, if_false]
  refine wpAny_bind (wpAny_holding (iter_tuple hT ?_))
  refine wpAny_bind (wpAny_holding (draw_tuple hlt n 0 _ _ ⟨_, Heap.get?_push_size _ rfl, rfl, rfl⟩ (hT.push _) (by omega) fun h₁ hit₁ hs₁ => ?_))
  have hl₁ : IsTup h₁ a its.toArray := (hT.push _).extBut hs₁.extBut hlt
  rw [Nat.zero_add] at hit₁
  have hit₁' := hit₁
  obtain ⟨oi, hoi, _⟩ := hit₁'
  have hl₁' := hl₁
  obtain ⟨ol, hol, _⟩ := hl₁'
  rw [List.drop_zero]
  have hfl : (its.toArray.toList.take n).length = n := by rw [List.length_take, Array.length_toList]; omega
  rw [if_neg (show ¬ ((its.toArray.toList.take n).length < n) by rw [hfl]; omega)]
  refine wpAny_bind (wpAny_holding (PySem.W.kun_collect (s := { s with heap := h₁ }) (T := "tuple_iterator") (.inr (.inr (.inr rfl))) (PySem.Walks.tuple (A := X.A.in1) hh s.heap.objs.size a hlt its.toArray) (fun j u st => st.1.typeIs) (k := n) (by omega) ⟨hit₁, hl₁⟩ (Heap.lt_size hoi) (Heap.lt_size hol) (fun h₂ tk hk => ?_) (by rw [sizeLine_eq]; omega)))
  have hrl : (its.toArray.toList.drop n).length = its.length - n := by rw [List.length_drop, Array.length_toList]
  have hmid : (its.toArray.toList.drop n).length - (n + 1 - 1 - n) = its.length - n := by rw [hrl]; omega
  show wpAny _ _ (if (its.toArray.toList.drop n).length < n + 1 - 1 - n then _ else _) _ _ _
  rw [if_neg (by rw [hrl]; omega)]
  show wpAny _ _ (newList ((its.toArray.toList.drop n).take ((its.toArray.toList.drop n).length - (n + 1 - 1 - n))) >>= fun d => pure (its.toArray.toList.take n ++ [d] ++ (its.toArray.toList.drop n).drop ((its.toArray.toList.drop n).length - (n + 1 - 1 - n)))) _ _ _
  rw [hmid]
  have e2 : (its.toArray.toList.drop n).take (its.length - n) = its.drop n := by
    rw [List.take_of_length_le (by rw [hrl]; exact Nat.le_refl _)]
  have e3 : (its.toArray.toList.drop n).drop (its.length - n) = [] := List.drop_eq_nil_of_le (by rw [hrl]; exact Nat.le_refl _)
  rw [e2, e3]
  have he : ∀ b u, s.heap.get? b = some u → h₂.get? b = some u := fun b o e => hk b o (Nat.ne_of_lt (Heap.lt_size e)) (hs₁.extBut b o (Nat.ne_of_lt (Heap.lt_size e)) (Heap.get?_push_of_some _ e))
  have I2 : Inv X pins σ H { s with heap := h₂, toks := tk } := I.kept he
  have hf : H h₂.objs.size = none := I2.hok.fresh (Nat.le_refl _)
  have z1 : (xs.drop n).length ≤ sizeLine := by rw [List.length_drop, sizeLine_eq]; omega
  refine wpAny_bind (wpAny_newList (s := { s with heap := h₂, toks := tk }) (wpAny_pure ?_) (by rw [List.length_drop, lv, sizeLine_eq]; omega))
  have I3 : Inv X pins σ (upd H h₂.objs.size (.lst (xs.drop n))) { s with heap := h₂.push { cls := .type "list", data := .seq (its.drop n).toArray }, toks := tk } :=
    I2.laid (t' := tk) (fun b u e => Heap.get?_push_of_some _ e) (Nat.le_refl _) ⟨z1, its.drop n, 0, vals_drop n rv, Heap.get?_push_size _ rfl⟩
  rw [List.append_nil]
  exact h.run pins _ σ _ _ _ Q I3 (vals_snoc (v := .ref h₂.objs.size) (vals_take n rv) rfl) (hw _ hf)
theorem pgs_star {X : Cx} {e : Expr} {es : List Expr} {p : Pos} {t : TG} {u : TGs} (h1 : PG X e t) (h2 : PGs X es u)
    (hs : (assignEach (.Starred e p :: es) X.env).map (·.2) = assign e X.env :: (assignEach es X.env).map (·.2) := by rfl) : PGs X (.Starred e p :: es) (gCons t u) := by
  refine ⟨fun pins s σ H vs us Q I r h => ?_⟩
  obtain ⟨v, vr, e1, h⟩ := h
  subst e1
  cases r with
  | cons r rr =>
    rw [hs]
    refine assignInOrder_cons (thn (h1.run pins s σ H _ _ _ I r h) fun _ s1 ⟨σ1, H1, I1, q1⟩ => ?_)
    exact h2.run pins s1 σ1 H1 _ _ Q I1 rr q1
structure ATgX (W : Wd) (H0 : Hp) (g : TG) (ag : ATg) : Prop where
  run : ∀ (v : V) (d : Dat) (σ : L2.St) (env : List Sl) (F : Addr → Prop) (H : Hp) (Q : L2.St → Hp → Prop) (P : List Sl → Prop), Okk W F H → Mt W H0 F H σ env → Rv W F H v d → ag d env P →
    (∀ env' σ' F' H', P env' → Ext W F H F' H' → Mt W H0 F' H' σ' env' → Q σ' H') → g v σ H Q
def gStA (n : Nat) (ag : List Dat → List Sl → (List Sl → Prop) → Prop) : ATg := fun d env P => tQ d fun ds => n ≤ ds.length ∧ ds.length ≤ 10000 ∧ ag (ds.take n ++ [.lst (ds.drop n)]) env P
theorem g_tupS {W : Wd} {H0 : Hp} {vs : List Nat} {n m : Nat} {t : TGs} {ag : List Dat → List Sl → (List Sl → Prop) → Prop} (h : ATgs W H0 vs m t ag) : ATgX W H0 (gTupS W.K n t) (gStA n ag) := ⟨fun v d σ env F H Q P ok mt r q k => by
  cases r with
  | @tup a us ds f r =>
    obtain ⟨h1, h2, q⟩ := (show n ≤ ds.length ∧ ds.length ≤ 10000 ∧ ag (ds.take n ++ [.lst (ds.drop n)]) env P from q)
    refine ⟨a, us, rfl, f.sq, by rw [r.length]; exact h1, by rw [r.length]; exact h2, fun D hD => ?_⟩
    have x : Ext W F H (fun b => F b ∨ b = D) (upd H D (.lst (us.drop n))) := Ext.new ok hD
    have sb := x.sub ok
    refine h.run _ _ σ env _ _ Q P x.ok (mt.ext ok x) (((r.take n).sub sb).append (.cons (.lst (.inr rfl) upd_same ((r.drop n).sub sb)) .nil)) q fun env' σ' p m _ => k env' σ' _ _ p x m
  | _ => exact (show False from q).elim⟩
theorem s_forT {W : Wd} {ts : TS} {as : ASt} {wi : TI} {ai : AFr} {g : TG} {ag : ATg} (hi : ∀ H0, AIter W H0 wi ai) (hg : ∀ H0, ATgX W H0 g ag) (hb : AStm W ts as) : AStm W (tFor wi g ts) (sFor ai ag as) := ⟨fun F0 H0 F1 H1 De Da σ env F H ok b m k h =>
  (hi H0).run σ env F H _ _ b.ex.ok m h fun ds Fa Ha J p1 x1 itk => by
  have b1 := b.step ok x1
  have m1 := m.ext b.ex.ok x1
  refine ⟨fun i n σ' H' => n + i = ds.length ∧ ∃ env' F', Bse W F0 H0 F1 H1 F' H' ∧ Sub Fa Ha F' H' ∧ Mt W H0 F' H' σ' env' ∧ forA ag as Da (ds.drop i) env', ⟨ds.length, rfl, env, Fa, b1, Sub.refl Fa Ha, m1, p1⟩, ?_⟩
  rintro i n σ2 H2 ⟨hn, env2, F2, b2, s2, m2, p2⟩
  by_cases hlt : i < ds.length
  · have hd : ds[i]? = some ds[i] := List.getElem?_eq_getElem hlt
    obtain ⟨go, yl⟩ := itk.it F2 H2 b2.ex.ok s2 i _ hd
    rw [List.drop_eq_getElem_cons hlt] at p2
    refine .inr ⟨go, fun σ' H' => ∃ env' F', Bse W F0 H0 F1 H1 F' H' ∧ Sub Fa Ha F' H' ∧ Mt W H0 F' H' σ' env' ∧ forA ag as Da (ds.drop (i + 1)) env',
      fun σ' H' ⟨env', F', rest⟩ => ⟨n - 1, by omega, by omega, env', F', rest⟩, fun x H3 y => ?_⟩
    obtain ⟨F3, x3, rx⟩ := yl x H3 y
    have b3 := b2.step ok x3
    have m3 := m2.ext b2.ex.ok x3
    have s3 := s2.trans (x3.sub b2.ex.ok)
    refine (hg H0).run x _ σ2 env2 F3 H3 _ _ x3.ok m3 rx p2 fun env4 σ4 F4 H4 p4 x4 m4 => ?_
    have b4 := b3.step ok x4
    have s4 := s3.trans (x4.sub x3.ok)
    exact hb.run F0 H0 F4 H4 _ { Da with nx := forA ag as Da (ds.drop (i + 1)), ct := forA ag as Da (ds.drop (i + 1)), bk := Da.nx } σ4 env4 F4 H4 ok ⟨b4.ex, Sub.refl _ _⟩ m4
      ⟨fun σ env F H b m h => ⟨env, F, ⟨b.ex, b4.sb.trans b.sb⟩, s4.trans b.sb, m, h⟩, fun v d F H b => k.rt v d F H ⟨b.ex, b4.sb.trans b.sb⟩, fun σ env F H b => k.nx σ env F H ⟨b.ex, b4.sb.trans b.sb⟩,
        fun σ env F H b m h => ⟨env, F, ⟨b.ex, b4.sb.trans b.sb⟩, s4.trans b.sb, m, h⟩⟩ p4
  · have e : i = ds.length := by omega
    subst e
    rw [List.drop_length] at p2
    exact .inl ⟨itk.done F2 H2 b2.ex.ok s2, k.nx σ2 env2 F2 H2 b2 m2 p2⟩⟩
theorem kindexD {X : Cx} {K : PySem.W.Frag} (hK : X.K = K) {k : Nat} (hr : Room k X.A) : MtR X "list.index" (rIndexD K) := by
  subst hK
  exact mt_indexD (by have := hr.un; omega)
theorem pyAll_get : ∀ {xs : List Dat} {j : Nat}, (pyAll xs)[j]? = (xs[j]?).map pyD
  | [], j => by
    show ([] : List PyData)[j]? = _
    simp
  | x :: xs, 0 => rfl
  | x :: xs, j + 1 => by
    show (pyAll xs)[j]? = _
    rw [pyAll_get, List.getElem?_cons_succ]
def aIndexD (ea eb : AEx) : AEx := fun env P => ea env fun x => lQ x fun xs => eb env fun y => okE 63 y ∧ (∀ d ∈ xs, okE 63 d) ∧ ∃ j : Nat, xs[j]? = some y ∧ (∀ m, m < j → xs[m]? ≠ some y) ∧ P (.int (j : Nat))
theorem a_indexD {W : Wd} {H0 : Hp} {ta tb : TE} {ea eb : AEx} (ha : AEg Pk W H0 ta ea) (hb : AExp W H0 tb eb) : AExp W H0 (tBM W.K "list" (rIndexD W.K) ta (tCons tb tNil)) (aIndexD ea eb) := ⟨fun σ env F H Q P ok m q k => ha.run σ env F H _ _ ok m q fun d F1 H1 v p1 x1 r1 => by
  cases d with
  | lst xs =>
    obtain ⟨a, vs, rfl, hA, np, rr⟩ := r1.lst x1.ok
    refine ⟨.inl ⟨rfl, vs, SqL.of hA⟩, hb.run σ env F1 H1 _ _ x1.ok (m.ext ok x1) p1 fun e F2 H2 u p2 x2 r2 => ?_⟩
    obtain ⟨f1, f2, j, g1, g2, p2⟩ := p2
    have rr2 := rr.sub (x2.sub x1.ok)
    have hA2 := x2.kp a _ hA np
    have ol : okE 64 (.lst xs) := okE_lst f2
    refine ⟨a, u, pyD e, pyAll xs, j, pyD e, rfl, rfl, .lst (SqL.of hA2) (layAll_dp rr2 ol.1), lay_dp r2 f1.1, okE_sh ol, okE_sh (f1.up (by omega)), by rw [pyAll_get, g1]; rfl, (lay_eqv _ _ f1.1 f1.1).mpr rfl, fun m z hm hz => ?_, k _ F2 H2 _ p2 (x1.trans ok x2) (.int _)⟩
    rw [pyAll_get] at hz
    cases hx : xs[m]? with
    | none =>
      rw [hx] at hz
      cases hz
    | some d =>
      rw [hx] at hz
      cases hz
      refine Bool.eq_false_iff.mpr fun z => g2 m hm ?_
      rw [hx, (lay_eqv _ _ (f2 d (List.mem_of_getElem? hx)).1 f1.1).mp z]
  | _ => exact p1.elim⟩
theorem cr_range1 {X : Cx} : CallR X (.type "range") (fun vs H Q => ∃ j : Int, vs = [V.int j] ∧ ∀ p, H p = none → Q (.ref p) (upd H p (.rng 0 j))) := by
  intro pins s σ H vs us Q I r h
  obtain ⟨j, rfl, q⟩ := h
  obtain ⟨u1, rfl, ri⟩ := vals1 r
  obtain ⟨t, rfl⟩ := ri
  refine call_range_1 ⟨.ref s.heap.objs.size, upd H s.heap.objs.size (.rng 0 j), I.laid (t' := s.toks + 2) (fun b o e => Heap.get?_push_of_some _ e) (Nat.le_refl _) ?_, rfl, q _ (I.hok.fresh (Nat.le_refl _))⟩
  exact ⟨_, _, _, Heap.get?_push_size _ rfl⟩
def iRngV (te : TE) : TI := fun σ H R => te σ H fun x H1 => ∃ a j, x = .ref a ∧ H1 a = some (.rng 0 j) ∧ -(2 ^ 62) ≤ j ∧ j < 2 ^ 62 ∧ R (Itr 0 j.toNat) H1
theorem pi_rngV {X : Cx} {K : PySem.W.Frag} (_ : X.K = K) {tg l : Expr} {tl : TE} (hl : PE X l tl) : PI X tg l (iRngV tl) := by
  refine ⟨fun pins s σ H R I h => ?_⟩
  refine thn (hl.run pins s σ H _ I h) fun v s1 ⟨x, H1, I1, r1, a, j, e, hA, h1, h2, q⟩ => ?_
  subst e
  cases r1
  obtain ⟨t, u, w, ho⟩ := (show ∃ t u v, s1.heap.get? a = some { cls := .type "range", data := .fields #[.int 0 t, .int j u, .int 1 v] } from I1.hok a _ hA)
  refine wpAny_pyIter_range ho (small_one (by omega) (by omega) h1 h2) ?_
  refine ⟨s1.heap.objs.size, [s1.heap.objs.size], _, _, H1, rfl, I1.kept (t' := s1.toks) fun b o e => Heap.get?_push_of_some _ e, turn_range _ 0 j.toNat, ?_, fun b hb => ?_, q⟩
  · have e1 : (0 : Int) + ((0 : Nat) : Int) * 1 = 0 := by simp
    have e2 : ((j.toNat : Nat) : Int) - ((0 : Nat) : Int) = Builtin.Range.rangeSize 0 j 1 := by rw [rangeSize_one]; split <;> omega
    show IsRangeIter _ _ ((0 : Int) + ((0 : Nat) : Int) * 1) (((j.toNat : Nat) : Int) - ((0 : Nat) : Int)) 1
    rw [e1, e2]
    exact Heap.get?_push_size _ rfl
  · have e : b = s1.heap.objs.size := by simpa using hb
    subst e
    exact I1.fpOk (Nat.le_refl _) (I1.hok.fresh (Nat.le_refl _))
def aRng (aa : AFr) : AEx := fun env P => aa env fun ds => match ds with
  | [.int j] => P (.rng 0 j)
  | _ => False
theorem a_rng {W : Wd} {H0 : Hp} {t : TA} {aa : AFr} (h : AArg W H0 1 t aa) : AExp W H0 (tCB (fun vs H Q => ∃ j : Int, vs = [V.int j] ∧ ∀ p, H p = none → Q (.ref p) (upd H p (.rng 0 j))) t) (aRng aa) := ⟨fun σ env F H Q P ok m q k => h.run σ env F H _ _ ok m q fun ds F1 H1 vs p1 x1 r1 l1 => by
  match ds, l1, p1, r1 with
  | [.int j], _, p1, .cons r .nil =>
    cases r
    refine ⟨j, rfl, fun p hp => ?_⟩
    have x2 : Ext W F1 H1 (fun b => F1 b ∨ b = p) (upd H1 p (.rng 0 j)) := Ext.new x1.ok hp
    exact k (.rng 0 j) _ _ _ p1 (x1.trans ok x2) (.rng (.inr rfl) upd_same)
  | [.non], _, p1, _ => exact (show False from p1).elim
  | [.bl _], _, p1, _ => exact (show False from p1).elim
  | [.str _], _, p1, _ => exact (show False from p1).elim
  | [.pool], _, p1, _ => exact (show False from p1).elim
  | [.lst _], _, p1, _ => exact (show False from p1).elim
  | [.tup _], _, p1, _ => exact (show False from p1).elim
  | [.obj _ _], _, p1, _ => exact (show False from p1).elim
  | [.dK _], _, p1, _ => exact (show False from p1).elim
  | [.dT _ _], _, p1, _ => exact (show False from p1).elim
  | [.rng _ _], _, p1, _ => exact (show False from p1).elim
  | [.cell _], _, p1, _ => exact (show False from p1).elim⟩
def iRngA (ea : AEx) : AFr := fun env P => ea env fun x => match x with
  | .rng lo j => lo = 0 ∧ j < 1000000000000 ∧ -1000000000000 < j ∧ P ((List.range j.toNat).map fun (i : Nat) => Dat.int (0 + (i : Int)))
  | _ => False
theorem i_rngV {W : Wd} {H0 : Hp} {te : TE} {ea : AEx} (h : AExp W H0 te ea) : AIter W H0 (iRngV te) (iRngA ea) := ⟨fun σ env F H R P ok m q k => h.run σ env F H _ _ ok m q fun d F1 H1 v p1 x1 r1 => by
  cases r1 with
  | @rng a lo j f hA =>
    obtain ⟨rfl, h1, h2, p1⟩ := p1
    exact ⟨a, j, rfl, hA, by omega, by omega, k _ F1 H1 _ p1 x1 (it_ran 0 j.toNat)⟩
  | _ => exact (show False from p1).elim⟩
theorem bt_range : bootBuiltins "range" = some (.type "range") := by decide +kernel
theorem vals_of : ∀ {xs : List V} {us : List Value}, xs.length = us.length → (∀ (i : Nat) x u, xs[i]? = some x → us[i]? = some u → RelV x u) → Vals xs us
  | [], [], _, _ => .nil
  | [], _ :: _, h, _ => by cases h
  | _ :: _, [], h, _ => by cases h
  | x :: xs, u :: us, h, k => .cons (k 0 x u rfl rfl) (vals_of (Nat.succ.inj h) fun i y v h1 h2 => k (i + 1) y v h1 h2)
def rngV (lo hi : Int) : List V := (List.range (hi - lo).toNat).map fun (i : Nat) => V.int (lo + (i : Int))
def rListRng : List V → Hp → VK → Prop := fun vs H Q => ∃ p lo hi, vs = [V.ref p] ∧ H p = some (.rng lo hi) ∧ (-(2 ^ 62) ≤ lo ∧ lo < 2 ^ 62 ∧ -(2 ^ 62) ≤ hi ∧ hi < 2 ^ 62) ∧ (hi - lo).toNat ≤ 10000 ∧ ∀ l, H l = none → Q (.ref l) (upd H l (.lst (rngV lo hi)))
theorem klistRng {X : Cx} (hc : X.calm = true) : CallR X (.type "list") rListRng := by
  intro pins s σ H vs us Q I r h
  obtain ⟨p, lo, hi, rfl, hA, ⟨b1, b2, b3, b4⟩, hl, q⟩ := h
  obtain ⟨u, rfl, rx⟩ := vals1 r
  cases rx
  obtain ⟨t, u, w, ho⟩ := (show ∃ t u v, s.heap.get? p = some { cls := .type "range", data := .fields #[.int lo t, .int hi u, .int 1 v] } from I.hok p _ hA)
  have e2 : Builtin.Range.rangeSize lo hi 1 = (((hi - lo).toNat : Nat) : Int) := by rw [rangeSize_one]; split <;> omega
  refine PySem.call_list_range (n := (hi - lo).toNat) (I.ok.hd hc) ho (small_one b1 b2 b3 b4) e2 (by omega) fun h' tk acc c' k hS hacc => ?_
  obtain ⟨hsz, hit⟩ := hacc
  have hz : (rngV lo hi).length ≤ sizeLine := by
    unfold rngV
    rw [List.length_map, List.length_range, sizeLine_eq]
    omega
  refine ⟨.ref s.heap.objs.size, upd H s.heap.objs.size (.lst (rngV lo hi)), I.laid (t' := tk) k (Nat.le_refl _) (show ObjOk X.prog X.w _ h' _ (.lst (rngV lo hi)) from ⟨hz, acc.toList, c', vals_of ?_ fun i x v h1 h2 => ?_, hS⟩), rfl, q _ (I.hok.fresh (Nat.le_refl _))⟩
  · unfold rngV
    rw [List.length_map, List.length_range]
    simpa using hsz.symm
  · unfold rngV at h1
    rw [List.getElem?_map] at h1
    cases g : (List.range (hi - lo).toNat)[i]? with
    | none =>
      rw [g] at h1
      cases h1
    | some j =>
      rw [g] at h1
      cases h1
      have ej : j = i := by
        obtain ⟨_, e⟩ := List.getElem?_eq_some_iff.mp g
        rw [List.getElem_range] at e
        exact e.symm
      subst ej
      obtain ⟨tt, e⟩ := hit j v (by simpa using h2)
      rw [e, Int.mul_one]
      exact ⟨tt, rfl⟩
def aLrng (aa : AFr) : AFr := fun env P => aa env fun ds => match ds with
  | [.int i, .int j] => (-1000000000000 < i ∧ i < 1000000000000 ∧ -1000000000000 < j ∧ j < 1000000000000) ∧ (j - i).toNat ≤ 10000 ∧ P ((List.range (j - i).toNat).map fun (n : Nat) => Dat.int (i + (n : Int)))
  | _ => False
theorem rv_rng {W : Wd} {F : Addr → Prop} {H : Hp} {lo : Int} : ∀ (ns : List Nat), RvAll W F H (ns.map fun (i : Nat) => V.int (lo + (i : Int))) (ns.map fun (i : Nat) => Dat.int (lo + (i : Int)))
  | [] => .nil
  | n :: ns => .cons (.int _) (rv_rng ns)
theorem a_lrng {W : Wd} {H0 : Hp} {t : TA} {aa : AFr} (h : AArg W H0 2 t aa) : AFrs W H0 (tCB rListRng (tCons (tCB (fun vs H Q => ∃ i j, vs = [V.int i, V.int j] ∧ ∀ p, H p = none → Q (.ref p) (upd H p (.rng i j))) t) tNil)) (aLrng aa) := ⟨fun σ env F H Q P ok m q k => h.run σ env F H _ _ ok m q fun ds F1 H1 vs p1 x1 r1 l1 => by
  match ds, l1, p1, r1 with
  | [.int i, .int j], _, p1, .cons ra (.cons rb .nil) =>
    cases ra
    cases rb
    obtain ⟨⟨b1, b2, b3, b4⟩, hl, p1⟩ := p1
    refine ⟨i, j, rfl, fun p hp => ⟨p, i, j, rfl, upd_same, ⟨by omega, by omega, by omega, by omega⟩, hl, fun l hn => ?_⟩⟩
    have x2 : Ext W F1 H1 F1 (upd H1 p (.rng i j)) := Ext.lay x1.ok hp
    have x3 : Ext W F1 (upd H1 p (.rng i j)) F1 (upd (upd H1 p (.rng i j)) l (.lst (rngV i j))) := Ext.lay x2.ok hn
    have x12 := (x1.trans ok x2).trans ok x3
    exact k _ _ _ l _ p1 x12 ((x1.trans ok x2).there ok hn) (fun f => x2.ok.tr l f hn) upd_same (rv_rng _)
  | [.int _, .non], _, p1, _ => exact (show False from p1).elim
  | [.int _, .bl _], _, p1, _ => exact (show False from p1).elim
  | [.int _, .str _], _, p1, _ => exact (show False from p1).elim
  | [.int _, .pool], _, p1, _ => exact (show False from p1).elim
  | [.int _, .lst _], _, p1, _ => exact (show False from p1).elim
  | [.int _, .tup _], _, p1, _ => exact (show False from p1).elim
  | [.int _, .obj _ _], _, p1, _ => exact (show False from p1).elim
  | [.int _, .dK _], _, p1, _ => exact (show False from p1).elim
  | [.int _, .dT _ _], _, p1, _ => exact (show False from p1).elim
  | [.int _, .rng _ _], _, p1, _ => exact (show False from p1).elim
  | [.int _, .cell _], _, p1, _ => exact (show False from p1).elim
  | [.non, _], _, p1, _ => exact (show False from p1).elim
  | [.bl _, _], _, p1, _ => exact (show False from p1).elim
  | [.str _, _], _, p1, _ => exact (show False from p1).elim
  | [.pool, _], _, p1, _ => exact (show False from p1).elim
  | [.lst _, _], _, p1, _ => exact (show False from p1).elim
  | [.tup _, _], _, p1, _ => exact (show False from p1).elim
  | [.obj _ _, _], _, p1, _ => exact (show False from p1).elim
  | [.dK _, _], _, p1, _ => exact (show False from p1).elim
  | [.dT _ _, _], _, p1, _ => exact (show False from p1).elim
  | [.rng _ _, _], _, p1, _ => exact (show False from p1).elim
  | [.cell _, _], _, p1, _ => exact (show False from p1).elim⟩
namespace HM
open PySem PySem.Spec PyProof.Rows L2
/-- what an object leads to: a namespace's values, a def's code, a class's namespace -/
def refsM (o : Obj) : List Addr := match o.data with
  | .dict es _ => es.toList.flatMap fun e => He.refV e.val
  | .func fd => He.refV fd.code
  | .cls cd => [cd.ns]
  | _ => []
def asM (g : Addr → Option Obj) : Nat → List Addr → List Addr
  | 0, as => as
  | n + 1, as => as ++ asM g n (as.flatMap fun a => match g a with
    | some o => refsM o
    | none => [])
abbrev Ex : Type := List (List (PySem.W.Frag → Bool))
def exB (ex : Ex) (K : PySem.W.Frag) : Bool := ex.all fun l => l.all fun f => f K
def obsK (ex : Ex) (fn : List He.FnD) (K : PySem.W.Frag) : He.Al := (exB ex K && fn.all fun d => (He.Fa.code d.at_ d.qual).ok K, fn.map fun d => He.fnObs K d.at_)
def obsM (ex : Ex) (fn : List He.FnD) (g : Addr → Option Obj) : He.Al := obsK ex fn (He.frG g (asM g 4 [mainGlobals]))
def Says (ex : Ex) (fn : List He.FnD) (K : PySem.W.Frag) : Prop := obsK ex fn K = He.valE fn
def hook (ex : Ex) (fn : List He.FnD) : PySem.W.Hook where
  α := He.Al
  obs := fun s => obsM ex fn s.heap.get?
  val := fun _ => He.valE fn
  says := fun _ h => ∃ K : PySem.W.Frag, K.In h ∧ Says ex fn K
  of := fun _ _ e => ⟨_, He.frG_in, e⟩
  keeps := fun _ _ _ ⟨K, hK, c⟩ k => ⟨K, PySem.W.Frag.In.keeps hK k, c⟩
theorem obs_eq {ex : Ex} {fn : List He.FnD} {g : Addr → Option Obj} {s : Shared} (h : ∀ a, g a = s.heap.get? a) : obsM ex fn g = (hook ex fn).obs s := by
  have e : g = s.heap.get? := funext h
  rw [e] <;> rfl
section
variable {ex : Ex} {fn : List He.FnD} {K : PySem.W.Frag}
theorem Says.row (c : Says ex fn K) (i j : Nat) {l : List (PySem.W.Frag → Bool)} {f : PySem.W.Frag → Bool} (h : ex[i]? = some l) (k : l[j]? = some f) : f K = true := by
  have c1 := (He.ba (show (exB ex K && fn.all fun d => (He.Fa.code d.at_ d.qual).ok K) = true from congrArg (fun z : He.Al => z.1) c)).1
  exact List.all_eq_true.mp (List.all_eq_true.mp c1 l (List.mem_of_getElem? h)) f (List.mem_of_getElem? k)
theorem Says.def_ (c : Says ex fn K) (i : Nat) {d : He.FnD} (h : fn[i]? = some d) :
    ∃ oc od osl kV doc pm an cdv ct, K.lookup (He.fAd K d.at_) = some ⟨oc, od, .func (PySem.W.fnOf d.name d.qual d.params d.body d.scope .none kV doc pm an cdv ct), osl⟩ ∧ PySem.W.codeIn K cdv d.qual = true := by
  have c2 := (He.ba (show (exB ex K && fn.all fun d => (He.Fa.code d.at_ d.qual).ok K) = true from congrArg (fun z : He.Al => z.1) c)).2
  have e : fn.map (fun d => He.fnObs K d.at_) = fn.map He.FnD.val := congrArg (fun z : He.Al => z.2) c
  have e2 : (fn.map fun d => He.fnObs K d.at_)[i]? = (fn.map He.FnD.val)[i]? := by rw [e]
  rw [List.getElem?_map, List.getElem?_map, h] at e2
  exact He.fn_ok (Option.some.inj e2) (List.all_eq_true.mp c2 d (List.mem_of_getElem? h))
end
/-- the token of a constant of the module -/
def tokG (K : PySem.W.Frag) (x : Str) : Tok := match PySem.W.nsIn K mainGlobals x with
  | some (some (.int _ t)) => t
  | some (some (.str _ t)) => t
  | _ => default
end HM
def top (i : Nat) : Stmt := PySem.Challenge.pw_vouchdoor_k50_picks_of_a_wallet.main.body.getD i (.Pass ⟨0, 0, 0, 0⟩)
local macro_rules | `(tactic| walk_at "hp") => `(tactic| first
  | (with_reducible assumption)
  | exact upd_same
  | (refine (upd_ne (by with_reducible assumption)).trans ?_; walk_at "hp"))
local macro_rules | `(tactic| walk_at "kit") => `(tactic| first
  | with_reducible exact kit_NoneType_tuple
  | with_reducible exact kit_NoneType_list
  | with_reducible exact kit_NoneType_bool
  | with_reducible exact kit_NoneType_int
  | with_reducible exact kit_NoneType_str
  | with_reducible exact kit_bool_tuple
  | with_reducible exact kit_bool_list
  | with_reducible exact kit_bool_bool
  | with_reducible exact kit_bool_int
  | with_reducible exact kit_bool_str
  | with_reducible exact kit_int_tuple
  | with_reducible exact kit_int_list
  | with_reducible exact kit_int_bool
  | with_reducible exact kit_int_int
  | with_reducible exact kit_int_str
  | with_reducible exact kit_str_tuple
  | with_reducible exact kit_str_list
  | with_reducible exact kit_str_bool
  | with_reducible exact kit_str_int
  | with_reducible exact kit_str_str
  | with_reducible exact kit_list_tuple
  | with_reducible exact kit_list_list
  | with_reducible exact kit_list_bool
  | with_reducible exact kit_list_int
  | with_reducible exact kit_list_str
  | with_reducible exact kit_tuple_tuple
  | with_reducible exact kit_tuple_list
  | with_reducible exact kit_tuple_bool
  | with_reducible exact kit_tuple_int
  | with_reducible exact kit_tuple_str)
local macro_rules | `(tactic| walk_at "ty") => `(tactic| first
  | with_reducible exact .base .non
  | with_reducible exact .base (.bl _)
  | with_reducible exact .base (.int _)
  | with_reducible exact .base (.str _)
  | exact .base (.lst (by walk_at "hp"))
  | exact .base (.tup (by walk_at "hp")))
local macro_rules | `(tactic| walk_at "sq") => `(tactic| first
  | (with_reducible assumption)
  | exact SqL.of (by walk_at "hp")
  | exact SqT.of (by walk_at "hp")
  | ((with_reducible refine (?_ : SqL _ _ _ _)); assumption)
  | ((with_reducible refine (?_ : SqT _ _ _ _)); assumption))
local macro_rules | `(tactic| walk_at "eq") => `(tactic| ((with_reducible refine (?_ : @Eq _ _ _)); rfl))
local macro_rules | `(tactic| walk_at "side") => `(tactic| first
  | (with_reducible assumption)
  | walk_at "eq"
  | ((with_reducible refine (?_ : _ ≤ sizeLine)); exact Nat.le_of_ble_eq_true rfl)
  | omega
  | (show (0 : Int) < _; omega)
  | ((with_reducible refine (?_ : SqL _ _ _ _)); walk_at "sq")
  | ((with_reducible refine (?_ : SqT _ _ _ _)); walk_at "sq")
  | ((with_reducible refine (?_ : _ = some _)); walk_at "hp")
  | ((with_reducible refine (?_ : tyV _ _ _ _)); exact Or.inl ⟨rfl, _, SqL.of (by walk_at "hp")⟩)
  | exact flat_ints _
  | ((with_reducible refine (?_ : Cls _ _)); assumption)
  | ((with_reducible refine (?_ : NoAttr _ _ _)); assumption)
  | ((with_reducible refine (?_ : List.length _ < 1000)); exact Nat.le_of_ble_eq_true rfl)
  | exact ⟨_, SqL.of (by walk_at "hp")⟩
  | exact ⟨_, SqT.of (by walk_at "hp")⟩
  | (show CMul _ _; first | (exact Or.inl ⟨by omega, by omega⟩) | (exact Or.inr ⟨by omega, by omega⟩))
  | (show CDiv _ _; exact ⟨by omega, by omega⟩)
  | (show CPow _ _; exact ⟨by decide, by decide, by decide⟩))
local macro_rules | `(tactic| walk_at "size") => `(tactic| exact len_size (by (try rw [List.length_map]); omega))
local macro_rules | `(tactic| walk_at "s") => `(tactic| first
  | refine ⟨propOnly (by walk_at "side"), ?_⟩
  | refine ⟨_, (by walk_at "eq"), ?_⟩
  | refine ⟨_, _, (by walk_at "eq"), (by walk_at "eq"), ?_⟩
  | refine ⟨_, _, (by walk_at "eq"), propOnly (by walk_at "side"), ?_⟩
  | refine ⟨_, _, (by walk_at "eq"), ?_⟩
  | refine ⟨_, _, _, _, (by walk_at "eq"), (by walk_at "eq"), (by walk_at "sq"), (by walk_at "eq"), ?_⟩
  | refine ⟨_, _, _, _, (by walk_at "eq"), (by walk_at "eq"), (by walk_at "hp"), (by walk_at "eq"), ?_⟩
  | refine ⟨_, _, (by walk_at "eq"), .inl (by walk_at "sq"), ?_⟩
  | refine ⟨_, _, (by walk_at "eq"), .inr (by walk_at "sq"), ?_⟩
  | refine ⟨_, _, _, _, _, (by walk_at "eq"), .ty _, (by walk_at "ty"), (by walk_at "kit"), ?_⟩
  | refine Or.inl ⟨_, (by walk_at "eq"), ?_⟩
  | refine ⟨_, _, _, (by walk_at "eq"), (by walk_at "eq"), (by walk_at "hp"), propOnly (by walk_at "size"), ?_⟩
  | refine ⟨_, _, _, (by walk_at "eq"), propOnly (by walk_at "side"), ?_⟩
  | refine ⟨_, _, _, _, (by walk_at "eq"), propOnly (by walk_at "side"), ?_⟩
  | refine ⟨_, _, _, _, _, (by walk_at "eq"), propOnly (by walk_at "side"), ?_⟩
  | refine ⟨_, _, _, _, _, _, (by walk_at "eq"), propOnly (by walk_at "side"), ?_⟩
  | refine ⟨_, _, _, (by walk_at "eq"), ?_⟩
  | refine ⟨_, _, _, _, (by walk_at "eq"), ?_⟩
  | ((with_reducible refine iteCT ?hc ?hr); case hc => rfl)
  | ((with_reducible refine iteCF ?hc ?hr); case hc => rfl))
local macro_rules | `(tactic| walk_at "go") => `(tactic| repeat walk_at "s")
abbrev s_is_prime : Stmt := top 2
theorem sc_is_prime : FnScope ["number", "divisor"] ["number"] (defScope s_is_prime) := ⟨rfl, rfl, rfl, by decide +kernel, rfl, by decide +kernel, by decide +kernel⟩
abbrev s_power : Stmt := top 3
theorem sc_power : FnScope ["base", "exponent", "modulus", "result", "square", "left"] ["base", "exponent", "modulus"] (defScope s_power) := ⟨rfl, rfl, rfl, by decide +kernel, rfl, by decide +kernel, by decide +kernel⟩
section
variable {P : Program} {w : World} {K : PySem.W.Frag} {mg : Str → Option Value} {base : Heap}
def Pr (n : Int) : Prop := 2 ≤ n ∧ ∀ d : Int, 2 ≤ d → d * d ≤ n → n % d ≠ 0
def spPower : Sp := fun vs H Q _ => ∃ a e m : Int, vs = [.int a, .int e, .int m] ∧ 0 ≤ e ∧ 0 < m ∧ m < 2147483648 ∧ Q (.int (a ^ e.toNat % m)) H
theorem ok_power {f : Addr} {fd : FuncData} (F : Fun K "power" "power" s_power f fd) : FnOk P w K mg base CX0 1 f fd ["base", "exponent", "modulus"] spPower := by
  refine F.ok sc_power (fun vs H Q E h => ?_) (fun cdv A outer s H vs Q E hr h => ?_)
  · obtain ⟨a, e, m, rfl, _⟩ := h
    rfl
  · obtain ⟨a, e, m, rfl, he, hm, hm2, q⟩ := h
    obtain ⟨n, rfl⟩ : ∃ n : Nat, e = n := ⟨e.toNat, by omega⟩
    rw [Int.toNat_natCast] at q
    refine ⟨_, (pss_cons (ps_set (i := 3) sc_power.nd rfl (.inl rfl) (pe_op op_mod pe_int (pv 2)))
      (pss_cons (ps_set (i := 4) sc_power.nd rfl (.inl rfl) (pe_op op_mod (pv 0) (pv 2)))
      (pss_cons (ps_set (i := 5) sc_power.nd rfl (.inl rfl) (pv 1))
      (pss_cons (ps_while PassesOwn.never (pt_cmpR op_gt (pv 5) pe_int (nomark _)) (pss_cons (ps_if (pt_cmpR op_eq (pe_op op_mod (pv 5) pe_int) pe_int (nomark _)) (pss_one (ps_set (i := 3) sc_power.nd rfl (.inl rfl) (pe_op op_mod (pe_op op_mul (pv 3) (pv 4)) (pv 2)))) pss_nil)
      (pss_cons (ps_set (i := 4) sc_power.nd rfl (.inl rfl) (pe_op op_mod (pe_op op_mul (pv 4) (pv 4)) (pv 2)))
      (pss_one (ps_set (i := 5) sc_power.nd rfl (.inl rfl) (pe_op op_fdiv (pv 5) pe_int))))))
      (pss_one (ps_ret (pv 3))))))), ?_⟩
    walk_at "go"
    have b1 := emod_bd (a := 1) hm
    have b2 := emod_bd (a := a) hm
    refine ⟨fun k σ H' => At (∃ (r s : Int) (l : Nat), σ = [some (.int a), some (.int n), some (.int m), some (.int r), some (.int s), some (.int l)] ∧ H' = H ∧ 0 ≤ r ∧ r < m ∧ 0 ≤ s ∧ s < m ∧ r * s ^ l % m = a ^ n % m ∧ l = k),
      ⟨n, .of ⟨_, _, _, rfl, rfl, b1.1, b1.2, b2.1, b2.2, ?_, rfl⟩⟩, ?_⟩
    · rw [← mul_emod_r, pow_emod, mul_emod_r, mul_emod_l, Int.one_mul]
    rintro k σ H' hW
    obtain ⟨r, s, l, rfl, rfl, r0, r1, s0, s1, e, rfl⟩ := hW.out
    have b3 := emod_bd (a := r * s) hm
    have b4 := emod_bd (a := s * s) hm
    walk_at "go"
    refine iteD (fun h => ?_) (fun h => ?_)
    · refine ⟨_, fun _ _ h => h, ?_⟩
      walk_at "go"
      refine iteD (fun o => ?_) (fun o => ?_)
      · have o' : l % 2 = 1 := by
          have := V.int.inj o
          omega
        walk_at "go"
        exact ⟨l / 2, by omega, .of ⟨r * s % m, s * s % m, l / 2, rfl, rfl, b3.1, b3.2, b4.1, b4.2, power_odd e o', rfl⟩⟩
      · have o' : ¬ l % 2 = 1 := fun z => o (congrArg V.int (by omega))
        walk_at "go"
        exact ⟨l / 2, by omega, .of ⟨r, s * s % m, l / 2, rfl, rfl, r0, r1, b4.1, b4.2, power_even e o', rfl⟩⟩
    · walk_at "go"
      have : l = 0 := by omega
      subst this
      rw [Int.pow_zero, Int.mul_one, Int.emod_eq_of_lt r0 r1] at e
      rw [e]
      exact q
def spIsPrime : Sp := fun vs H Q _ => ∃ n : Int, vs = [.int n] ∧ n < 1073741824 ∧ ∀ b : Bool, (b = true ↔ Pr n) → Q (.bl b) H
theorem ok_is_prime {f : Addr} {fd : FuncData} (F : Fun K "is_prime" "is_prime" s_is_prime f fd) : FnOk P w K mg base CX0 1 f fd ["number"] spIsPrime := by
  refine F.ok sc_is_prime (fun vs H Q E h => ?_) (fun cdv A outer s H vs Q E hr h => ?_)
  · obtain ⟨n, rfl, _⟩ := h
    rfl
  · obtain ⟨n, rfl, hn, q⟩ := h
    refine ⟨_, (pss_cons (ps_if (pt_cmpR op_lt (pv 0) pe_int (nomark _)) (pss_one (ps_ret pe_bl)) pss_nil)
      (pss_cons (ps_set (i := 1) sc_is_prime.nd rfl (.inl rfl) pe_int)
      (pss_cons (ps_while PassesOwn.never (pt_cmpR op_le (pe_op op_mul (pv 1) (pv 1)) (pv 0) (nomark _)) (pss_cons (ps_if (pt_cmpR op_eq (pe_op op_mod (pv 0) (pv 1)) pe_int (nomark _)) (pss_one (ps_ret pe_bl)) pss_nil)
      (pss_one (ps_aug (i := 1) sc_is_prime.nd rfl (.inl rfl) (pe_ifExp (pt_cmpR op_eq (pv 1) pe_int (nomark _)) pe_int pe_int) ip_add))))
      (pss_one (ps_ret pe_bl))))), ?_⟩
    walk_at "go"
    refine iteD (fun c => ?_) (fun c => ?_)
    · walk_at "go"
      exact q _ ⟨fun z => (by cases z), fun z => absurd z.1 (by omega)⟩
    walk_at "go"
    refine ⟨fun k σ H' => At (∃ d : Int, σ = [some (.int n), some (.int d)] ∧ H' = H ∧ 2 ≤ d ∧ (d = 2 ∨ d % 2 = 1) ∧ d ≤ n + 2 ∧ (∀ e : Int, 2 ≤ e → e < d → n % e ≠ 0) ∧ (n + 2 - d).toNat = k),
      ⟨_, .of ⟨2, rfl, rfl, by omega, .inl rfl, by omega, fun e h1 h2 => by omega, rfl⟩⟩, ?_⟩
    rintro k σ H' hW
    obtain ⟨d, rfl, rfl, h2, par, dn, hd, hk⟩ := hW.out
    walk_at "go"
    refine iteD (fun h => ?_) (fun h => ?_)
    · have dle : d ≤ n := by
        have := Int.mul_le_mul_of_nonneg_right h2 (show (0 : Int) ≤ d by omega)
        omega
      refine ⟨_, fun _ _ h => h, ?_⟩
      walk_at "go"
      refine iteD (fun o => ?_) (fun o => ?_)
      · walk_at "go"
        exact q _ ⟨fun z => (by cases z), fun z => absurd (V.int.inj o) (z.2 d h2 h)⟩
      · have o' : n % d ≠ 0 := fun z => o (congrArg V.int z)
        walk_at "go"
        refine iteD (fun c2 => ?_) (fun c2 => ?_)
        · have c2' : d = 2 := V.int.inj c2
          walk_at "go"
          refine ⟨(n + 2 - (d + 1)).toNat, by omega, .of ⟨d + 1, rfl, rfl, by omega, by omega, by omega, fun e h1 h2 => ?_, rfl⟩⟩
          have : e = d := by omega
          subst this
          exact o'
        · have c2' : d ≠ 2 := fun z => c2 (congrArg V.int z)
          walk_at "go"
          refine ⟨(n + 2 - (d + 2)).toNat, by omega, .of ⟨d + 2, rfl, rfl, by omega, by omega, by omega, fun e h1 h2 => ?_, rfl⟩⟩
          by_cases e1 : e < d
          · exact hd e h1 e1
          · by_cases e2 : e = d
            · subst e2
              exact o'
            · have e3 : e % 2 = 0 := by omega
              refine fun z => hd 2 (by omega) (by omega) ?_
              have := Int.dvd_trans (Int.dvd_of_emod_eq_zero e3) (Int.dvd_of_emod_eq_zero z)
              exact Int.emod_eq_zero_of_dvd this
    · walk_at "go"
      refine q _ ⟨fun _ => ⟨by omega, fun e h1 h3 => ?_⟩, fun _ => rfl⟩
      by_cases e1 : e < d
      · exact hd e h1 e1
      · have := Int.mul_le_mul (show d ≤ e by omega) (show d ≤ e by omega) (by omega) (by omega)
        omega
end
abbrev s__law_draw : Stmt := top 36
theorem sc__law_draw : FnScope ["pool", "size", "cell", "value"] ["pool", "size"] (defScope s__law_draw) := ⟨rfl, rfl, rfl, by decide +kernel, rfl, by decide +kernel, by decide +kernel⟩
def KeepP (p : Addr) (H H' : Hp) : Prop := ∀ b o, b ≠ p → H b = some o → H' b = some o
theorem KeepP.refl (p : Addr) (H : Hp) : KeepP p H H := fun _ _ _ h => h
theorem keepP_pool {H0 H : Hp} {p : Addr} {o u : HO} (s : KeepP p H0 H) (_h : H0 p = some u) (_hu : poolO u = true) : KeepP p H0 (upd H p o) := fun b x n e => by
  rw [upd_ne n]
  exact s b x n e
section
variable {P : Program} {w : World} {K : PySem.W.Frag} {mg : Str → Option Value} {base : Heap}
def spDrawP : Sp := fun vs H Q _ => ∃ (p c : Addr) (n : Int), vs = [.ref p, .int n] ∧ PoolAt H p c ∧ 0 < n ∧ n < 1073741824 ∧
  ∀ v H', 0 ≤ v → v < n → PoolAt H' p c → KeepP p H H' → Q (.int v) H'
set_option maxHeartbeats 1000000 in
theorem ok_law_drawP {f : Addr} {fd : FuncData} (F : Fun K "_law_draw" "_law_draw" s__law_draw f fd) (B : Blt mg) : FnOk P w K mg base CX0 1 f fd ["pool", "size"] spDrawP := by
  refine F.ok sc__law_draw (fun vs H Q E h => ?_) (fun cdv A outer s H vs Q E hr h => ?_)
  · obtain ⟨p, c, n, rfl, _⟩ := h
    rfl
  · obtain ⟨p, c, n, rfl, ⟨ns, i, m, t, b, z, h1, h2, i0, t0, t1⟩, n0, n1, q⟩ := h
    have hu := hu_of hr
    refine ⟨_, (C8.pss_cut (ps_if (PW.pt (pw_and (pt_cmpR op_le (pe_ix (kixl (K := K) rfl) (pv 0) pe_int (fun _ _ => rfl)) pe_int (nomark _)) (pw_and (pt_cmpR op_le (pe_ix (kixl (K := K) rfl) (pv 0) pe_int (fun _ _ => rfl)) pe_int (nomark _)) (pw_and1 (pt_cmpR op_lt (pe_ix (kixl (K := K) rfl) (pv 0) pe_int (fun _ _ => rfl)) (pe_callB (klen (K := K) rfl) (by rfl) B.len bt_len (pa_cons (pe_ix (kixl (K := K) rfl) (pv 0) pe_int (fun _ _ => rfl)) pa_nil)) (nomark _)))))) (pss_cons (ps_set (i := 2) sc__law_draw.nd rfl (.inl rfl) (pe_ix (kixl (K := K) rfl) (pe_ix (kixl (K := K) rfl) (pv 0) pe_int (fun _ _ => rfl)) (pe_ix (kixl (K := K) rfl) (pv 0) pe_int (fun _ _ => rfl)) (fun _ _ => rfl)))
      (pss_cons (ps_asg (pe_op op_add (pe_ix (kixl (K := K) rfl) (pv 0) pe_int (fun _ _ => rfl)) pe_int) (pg_sub (pv 0) pe_int set_list))
      (pss_cons (ps_asg (pe_op op_mod (pe_callTy call_int1 (by rfl) B.int bt_int (pa_cons (pe_op op_add (pe_op op_mul (pe_ix (kixl (K := K) rfl) (pv 0) pe_int (fun _ _ => rfl)) pe_int) (pv 2)) pa_nil)) pe_int) (pg_sub (pv 0) pe_int set_list))
      (pss_cons (ps_asg pe_int (pg_sub (pv 0) pe_int set_list))
      (pss_one (ps_if (pt_cmpR op_ge (pv 2) (pe_op op_pow pe_int pe_int) (nomark _)) (pss_one (ps_asg (pv 2) (pg_sub (pv 0) pe_int set_list))) pss_nil)))))) pss_nil)
      (pss_cons (ps_if (pt_cmpR op_gt (pe_ix (kixl (K := K) rfl) (pv 0) pe_int (fun _ _ => rfl)) pe_int (nomark _)) (pss_cons (ps_set (i := 3) sc__law_draw.nd rfl (.inl rfl) (pe_op op_mod (pe_callTy call_int1 (by rfl) B.int bt_int (pa_cons (pe_ix (kixl (K := K) rfl) (pv 0) pe_int (fun _ _ => rfl)) pa_nil)) (pv 1)))
      (pss_cons (ps_asg (pe_op op_fdiv (pe_ix (kixl (K := K) rfl) (pv 0) pe_int (fun _ _ => rfl)) (pv 1)) (pg_sub (pv 0) pe_int set_list))
      (pss_cons (ps_asg pe_int (pg_sub (pv 0) pe_int set_list))
      (pss_one (ps_ret (pv 3)))))) pss_nil)
      (pss_cons (ps_asg (pe_op op_sub (pe_ix (kixl (K := K) rfl) (pv 0) pe_int (fun _ _ => rfl)) pe_int) (pg_sub (pv 0) pe_int set_list))
      (pss_cons (ps_asg (pe_op op_mod (pe_callTy call_int1 (by rfl) B.int bt_int (pa_cons (pe_op op_add (pe_op op_mul (pe_ix (kixl (K := K) rfl) (pv 0) pe_int (fun _ _ => rfl)) pe_int) pe_int) pa_nil)) pe_int) (pg_sub (pv 0) pe_int set_list))
      (pss_one (ps_ret (pe_op op_mod (pe_op op_mod (pe_callTy call_int1 (by rfl) B.int bt_int (pa_cons (pe_op op_add (pe_op op_mul (pe_ix (kixl (K := K) rfl) (pv 0) pe_int (fun _ _ => rfl)) pe_int) pe_int) pa_nil)) pe_int) (pv 1)))))))), ?_⟩
    have ncp : c ≠ p := fun e => by
      rw [e, h1] at h2
      cases ns with
      | nil => cases h2
      | cons y ys => cases h2
    refine ⟨fun σ' H' => At (∃ (x : Option V) (i m t b : Int), σ' = [some (.ref p), some (.int n), x, none] ∧ H' p = some (.lst [.ref c, .int i, .int m, .int t, .int b, .int z]) ∧ H' c = some (.lst (ns.map V.int)) ∧ 0 ≤ i ∧ 0 ≤ t ∧ t < 2147483647 ∧ KeepP p H H'), ?_, ?_⟩
    · have out : ∃ (x : Option V) (i m t b : Int), (L2.start ["pool", "size", "cell", "value"] [.ref p, .int n]) = [some (.ref p), some (.int n), x, none] ∧ H p = some (.lst [.ref c, .int i, .int m, .int t, .int b, .int z]) ∧ H c = some (.lst (ns.map V.int)) ∧ 0 ≤ i ∧ 0 ≤ t ∧ t < 2147483647 ∧ KeepP p H H :=
        ⟨none, i, m, t, b, rfl, h1, h2, i0, t0, t1, KeepP.refl p H⟩
      walk_at "go"
      refine iteD (fun c1 => ?_) (fun c1 => ?_)
      · walk_at "go"
        refine iteD (fun c2 => ?_) (fun c2 => ?_)
        · walk_at "go"
          refine iteD (fun c3 => ?_) (fun c3 => ?_)
          · have c3' : i < (ns.length : Int) := by
              rw [List.length_map] at c3
              exact c3
            obtain ⟨y, ha⟩ : ∃ y, atI (ns.map V.int) i = some (.int y) := by
              have hlt : i.toNat < ns.length := by omega
              refine ⟨ns[i.toNat], at_of (j := i.toNat) (by omega) ?_⟩
              rw [List.getElem?_map, List.getElem?_eq_getElem hlt]
              rfl
            walk_at "go"
            refine ⟨_, _, _, _, rfl, rfl, SqL.of h2, ha, ?_⟩
            walk_at "go"
            have fin : ∀ (mm : Int) (H' : Hp) (hp : H' p = some (.lst [.ref c, .int (i + 1), .int mm, .int ((t * 31 + y) % 2147483647), .int 7, .int z])) (hc : H' c = some (.lst (ns.map V.int))) (hk : KeepP p H H'),
                ∃ (x : Option V) (i m t b : Int), ((L2.start ["pool", "size", "cell", "value"] [.ref p, .int n]).set 2 (some (V.int y))) = [some (.ref p), some (.int n), x, none] ∧ H' p = some (.lst [.ref c, .int i, .int m, .int t, .int b, .int z]) ∧ H' c = some (.lst (ns.map V.int)) ∧ 0 ≤ i ∧ 0 ≤ t ∧ t < 2147483647 ∧ KeepP p H H' :=
              fun mm H' hp hc hk => ⟨_, i + 1, mm, _, 7, rfl, hp, hc, by omega, by omega, by omega, hk⟩
            refine iteD (fun c4 => ?_) (fun c4 => ?_)
            · walk_at "go"
              exact .of (fin _ _ upd_same (by rw [upd_ne ncp, upd_ne ncp, upd_ne ncp, upd_ne ncp]; exact h2) (keepP_pool (keepP_pool (keepP_pool (keepP_pool (KeepP.refl p H) h1 rfl) h1 rfl) h1 rfl) h1 rfl))
            · walk_at "go"
              exact .of (fin _ _ upd_same (by rw [upd_ne ncp, upd_ne ncp, upd_ne ncp]; exact h2) (keepP_pool (keepP_pool (keepP_pool (KeepP.refl p H) h1 rfl) h1 rfl) h1 rfl))
          · walk_at "go"
            exact .of out
        · walk_at "go"
          exact .of out
      · walk_at "go"
        exact .of out
    · intro σ' H' hW
      obtain ⟨x, i, m, t, b, rfl, h1', h2', i0, t0, t1, hk⟩ := hW.out
      have fin : ∀ (v : Int) (mm tt bb : Int) (H2 : Hp), 0 ≤ v → v < n → H2 p = some (.lst [.ref c, .int i, .int mm, .int tt, .int bb, .int z]) → H2 c = some (.lst (ns.map V.int)) → 0 ≤ tt → tt < 2147483647 → KeepP p H H2 → Q (.int v) H2 :=
        fun v mm tt bb H2 v0 v1 a1 a2 a3 a4 a5 => q v H2 v0 v1 ⟨ns, i, mm, tt, bb, z, a1, a2, i0, a3, a4⟩ a5
      walk_at "go"
      refine iteD (fun c1 => ?_) (fun c1 => ?_)
      · walk_at "go"
        exact fin _ _ _ _ _ (Int.emod_nonneg _ (by omega)) (Int.emod_lt_of_pos _ n0) upd_same (by rw [upd_ne ncp, upd_ne ncp]; exact h2') t0 t1 (keepP_pool (keepP_pool hk h1 rfl) h1 rfl)
      · walk_at "go"
        exact fin _ _ _ _ _ (Int.emod_nonneg _ (by omega)) (Int.emod_lt_of_pos _ n0) upd_same (by rw [upd_ne ncp, upd_ne ncp]; exact h2') (by omega) (by omega) (keepP_pool (keepP_pool hk h1 rfl) h1 rfl)
end
local macro_rules | `(tactic| walk_at "sd") => `(tactic| first
  | (with_reducible assumption)
  | rfl
  | omega
  | (show CMul _ _; first | (exact Or.inl ⟨by omega, by omega⟩) | (exact Or.inr ⟨by omega, by omega⟩))
  | (show CDiv _ _; exact ⟨by omega, by omega⟩)
  | (show CPow _ _; exact ⟨by decide, by decide, by decide⟩)
  | (show (0 : Int) < _; omega))
local macro_rules | `(tactic| walk_at "nf") => `(tactic| simp only [List.map_cons, List.map_nil, List.cons_append, List.nil_append, List.length_cons, List.length_nil, Nat.reduceAdd, Nat.reduceSub, List.replicate_succ, List.replicate_zero, List.set_cons_zero, List.set_cons_succ, gA])
abbrev s_Group___init__ : Stmt := inClass (top 12) 0
theorem sc_Group___init__ : FnScope ["self", "p", "q", "bases"] ["self", "p", "q", "bases"] (defScope s_Group___init__) := ⟨rfl, rfl, rfl, by decide +kernel, rfl, by decide +kernel, by decide +kernel⟩
abbrev s__is_root : Stmt := top 13
theorem sc__is_root : FnScope ["p", "q", "number"] ["p", "q", "number"] (defScope s__is_root) := ⟨rfl, rfl, rfl, by decide +kernel, rfl, by decide +kernel, by decide +kernel⟩
abbrev s__check_primes : Stmt := top 14
theorem sc__check_primes : FnScope ["p", "q"] ["p", "q"] (defScope s__check_primes) := ⟨rfl, rfl, rfl, by decide +kernel, rfl, by decide +kernel, by decide +kernel⟩
abbrev s__check_bases : Stmt := top 15
theorem sc__check_bases : FnScope ["p", "q", "bases", "index", "base"] ["p", "q", "bases"] (defScope s__check_bases) := ⟨rfl, rfl, rfl, by decide +kernel, rfl, by decide +kernel, by decide +kernel⟩
structure Glb (mg : Str → Option Value) : Prop where
  SMALLEST_P : ∃ t, mg "SMALLEST_P" = some (.int 3 t)
  LARGEST_P : ∃ t, mg "LARGEST_P" = some (.int 1000000 t)
  FEWEST_BASES : ∃ t, mg "FEWEST_BASES" = some (.int 2 t)
  MOST_BASES : ∃ t, mg "MOST_BASES" = some (.int 12 t)
section
variable {P : Program} {w : World} {K : PySem.W.Frag} {mg : Str → Option Value} {base : Heap}
def rz (p q e k : Int) : Int := e ^ (k % q).toNat % p
def prF (p q : Int) : Int → List (Int × Int) → Int
  | a, [] => a
  | a, (e, k) :: r => prF p q (a * rz p q e k % p) r
def prZ (p q : Int) (l : List (Int × Int)) : Int := prF p q 1 l
theorem prF_snoc (p q : Int) : ∀ (l : List (Int × Int)) (a e k : Int), prF p q a (l ++ [(e, k)]) = prF p q a l * rz p q e k % p
  | [], _, _, _ => rfl
  | (e', k') :: r, a, e, k => prF_snoc p q r _ e k
theorem prF_bd {p q : Int} (h : 1 < p) : ∀ (l : List (Int × Int)) (a : Int), 0 ≤ a → a < p → 0 ≤ prF p q a l ∧ prF p q a l < p
  | [], a, h0, h1 => ⟨h0, h1⟩
  | (e, k) :: r, a, h0, h1 => by
    have := emod_bd (a := a * rz p q e k) (m := p) (by omega)
    exact prF_bd h r _ this.1 this.2
/-- e is an element, worked out -/
def El (p q n : Int) : Prop := 1 ≤ n ∧ n < p ∧ n ^ q.toNat % p = 1
def spRoot : Sp := fun vs H Q _ => ∃ p q n : Int, vs = [.int p, .int q, .int n] ∧ 0 < q ∧ 0 < p ∧ p < 2147483648 ∧ ∀ b : Bool, (b = true ↔ El p q n) → Q (.bl b) H
theorem ok_is_root {f : Addr} {fd : FuncData} (F : Fun K "_is_root" "_is_root" s__is_root f fd) (C_power : C8.Cal P w K mg base 1 "power" spPower []) : FnOk P w K mg base CX0 2 f fd ["p", "q", "number"] spRoot := by
  refine F.ok sc__is_root (fun vs H Q E h => ?_) (fun cdv A outer s H vs Q E hr h => ?_)
  · obtain ⟨p, q, n, rfl, _⟩ := h
    rfl
  · obtain ⟨p, q, n, rfl, q0, p0, p1, z⟩ := h
    refine ⟨_, (pss_one (ps_ret (pe_and (pe_chain op_le op_lt pe_int (pv 2) (pv 0)) (pe_one (pe_cmpR op_eq (C8.pe_c C_power hr (by omega) rfl (pa_cons (pv 2) (pa_cons (pv 1) (pa_cons (pv 0) pa_nil)))) pe_int (nomark _)))))), ?_⟩
    walk_at "go"
    refine iteD (fun h1 => ?_) (fun h1 => ?_)
    · walk_at "go"
      refine iteD (fun h2 => ?_) (fun h2 => ?_)
      · walk_at "go"
        refine z _ ?_
        rw [decide_eq_true_eq]
        exact ⟨fun e => ⟨h1, h2, V.int.inj e⟩, fun e => congrArg V.int e.2.2⟩
      · walk_at "go"
        exact z _ ⟨fun e => (by cases e), fun e => absurd e.2.1 h2⟩
    · walk_at "go"
      exact z _ ⟨fun e => (by cases e), fun e => absurd e.1 h1⟩
/-- numbers that make a group -/
structure GOk (p q : Int) (bs : List Int) : Prop where
  p3 : 3 ≤ p
  pm : p ≤ 1000000
  pp : Pr p
  qp : Pr q
  dv : (p - 1) % q = 0
  l2 : 2 ≤ bs.length
  lm : bs.length ≤ 12
  el : ∀ b ∈ bs, b ≠ 1 ∧ El p q b
  nd : bs.Nodup
theorem GOk.q0 {p q : Int} {bs : List Int} (g : GOk p q bs) : 0 < q := by
  have := g.qp.1
  omega
theorem GOk.p0 {p q : Int} {bs : List Int} (g : GOk p q bs) : 1 < p := by
  have := g.p3
  omega
def spCheckPrimes : Sp := fun vs H Q _ => ∃ p q : Int, vs = [.int p, .int q] ∧ 3 ≤ p ∧ p ≤ 1000000 ∧ Pr p ∧ Pr q ∧ (p - 1) % q = 0 ∧ Q .non H
theorem ok_check_primes {f : Addr} {fd : FuncData} (F : Fun K "_check_primes" "_check_primes" s__check_primes f fd) (G : Glb mg) (C_is_prime : C8.Cal P w K mg base 1 "is_prime" spIsPrime []) : FnOk P w K mg base CX0 2 f fd ["p", "q"] spCheckPrimes := by
  refine F.ok sc__check_primes (fun vs H Q E h => ?_) (fun cdv A outer s H vs Q E hr h => ?_)
  · obtain ⟨p, q, rfl, _⟩ := h
    rfl
  · obtain ⟨p, q, rfl, p3, pm, pp, qp, dv, z⟩ := h
    have q2 := qp.1
    have ql := Int.le_of_dvd (show (0 : Int) < p - 1 by omega) (Int.dvd_of_emod_eq_zero dv)
    refine ⟨_, (pss_cons (ps_if (PW.pt (pw_or (pt_not (pt_chain op_le op_le (pe_gint G.SMALLEST_P) (pv 0) (pe_gint G.LARGEST_P))) (pw_or1 (pt_not (pt_val (C8.pe_c C_is_prime hr (by omega) rfl (pa_cons (pv 0) pa_nil))))))) (pss_one ps_never) pss_nil)
      (pss_one (ps_if (PW.pt (pw_or (pt_cmpR op_lt (pv 1) pe_int (nomark _)) (pw_or (pt_cmpR op_ne (pe_op op_mod (pe_op op_sub (pv 0) pe_int) (pv 1)) pe_int (nomark _)) (pw_or1 (pt_not (pt_val (C8.pe_c C_is_prime hr (by omega) rfl (pa_cons (pv 1) pa_nil)))))))) (pss_one ps_never) pss_nil))), ?_⟩
    walk_at "go"
    refine iteD (fun h1 => ?_) (fun h1 => absurd p3 h1)
    walk_at "go"
    rw [decide_eq_true pm]
    walk_at "go"
    intro b hb
    walk_at "go"
    rw [hb.mpr pp]
    walk_at "go"
    rw [decide_eq_false (show ¬ q < 2 by omega)]
    walk_at "go"
    rw [show decide (V.int ((p - 1) % q) = V.int 0) = true from decide_eq_true (congrArg V.int dv)]
    walk_at "go"
    intro b hb
    walk_at "go"
    rw [hb.mpr qp]
    walk_at "go"
    exact z
def spCheckBases (K : PySem.W.Frag) : Sp := fun vs H Q _ => ∃ (p q : Int) (b : Addr) (bs : List Int), vs = [.int p, .int q, .ref b] ∧ SqL K H b (bs.map V.int) ∧ GOk p q bs ∧ ∀ H', Same H H' → Q .non H'
theorem ok_check_bases {f : Addr} {fd : FuncData} (F : Fun K "_check_bases" "_check_bases" s__check_bases f fd) (G : Glb mg) (B : Blt mg) (C__is_root : C8.Cal P w K mg base 2 "_is_root" spRoot []) : FnOk P w K mg base CX0 3 f fd ["p", "q", "bases"] (spCheckBases K) := by
  refine F.ok sc__check_bases (fun vs H Q E h => ?_) (fun cdv A outer s H vs Q E hr h => ?_)
  · obtain ⟨p, q, b, bs, rfl, _⟩ := h
    rfl
  · obtain ⟨p, q, b, bs, rfl, hb, g, z⟩ := h
    have l2 := g.l2
    have lm := g.lm
    have q0 := g.q0
    have p0 := g.p0
    have pm := g.pm
    refine ⟨_, (pss_cons (ps_if (pt_not (pt_chain op_le op_le (pe_gint G.FEWEST_BASES) (pe_callB (klen (K := K) rfl) (by rfl) B.len bt_len (pa_cons (pv 2) pa_nil)) (pe_gint G.MOST_BASES))) (pss_one ps_never) pss_nil)
      (pss_one (ps_for PassesOwn.never rfl (pi_enum (by rfl) B.enumerate (pa_cons (pv 2) pa_nil)) (kgtup (K := K) (n := 2) rfl rfl (pgs_cons (pg_name (i := 3) sc__check_bases.nd rfl (.inl rfl)) (pgs_cons (pg_name (i := 4) sc__check_bases.nd rfl (.inl rfl)) pgs_nil)))
      (pss_one (ps_if (PW.pt (pw_or (pt_cmpR op_eq (pv 4) pe_int (nomark _)) (pw_or (pt_not (pt_val (C8.pe_c C__is_root hr (by omega) rfl (pa_cons (pv 0) (pa_cons (pv 1) (pa_cons (pv 4) pa_nil)))))) (pw_or1 (pt_cmpR (kin (K := K) rfl) (pv 4) (pe_slice (ksll (K := K) rfl) (pv 2) po_none (po_some (pv 3))) rfl))))) (pss_one ps_never) pss_nil))))), ?_⟩
    walk_at "go"
    rw [List.length_map, decide_eq_true (show (2 : Int) ≤ bs.length by omega)]
    walk_at "go"
    rw [decide_eq_true (show (bs.length : Int) ≤ 12 by omega)]
    walk_at "go"
    refine for_enum (xs := bs.map V.int) (fun i σ' H' => At (∃ y3 y4, σ' = [some (.int p), some (.int q), some (.ref b), y3, y4] ∧ Same H H')) (.of ⟨_, _, rfl, Same.refl H⟩) (fun i σ' H' hW => ?_) ?_ ?_
    · obtain ⟨_, _, _, k⟩ := hW.out
      exact k.seq hb
    · intro i x T σ' H' hx hW hT
      obtain ⟨y3, y4, rfl, k⟩ := hW.out
      obtain ⟨n, hn, rfl⟩ : ∃ n, bs[i]? = some n ∧ x = V.int n := by
        rw [List.getElem?_map] at hx
        cases e : bs[i]? with
        | none =>
          rw [e] at hx
          cases hx
        | some n =>
          rw [e] at hx
          exact ⟨n, rfl, (Option.some.inj hx).symm⟩
      have mn := List.mem_of_getElem? hn
      have el := g.el n mn
      have k2 := k.trans (same_new (o := .tup [.int (i : Nat), .int n]) hT)
      have hb2 := k2.seq hb
      walk_at "go"
      rw [decide_eq_false (show ¬ V.int n = V.int 1 from fun e => el.1 (V.int.inj e))]
      walk_at "go"
      intro b' hb'
      walk_at "go"
      rw [hb'.mpr el.2]
      walk_at "go"
      intro c hc
      have k3 := k2.trans (same_new (o := .lst (cutV (bs.map V.int) none (some (i : Int)))) hc)
      rw [cut_take, ← List.map_take] at k3 ⊢
      refine ⟨_, _, rfl, .inl (SqL.of upd_same), rfl, flat_ints _, ?_⟩
      rw [inV_ints, decide_eq_false (show ¬ n ∈ bs.take i from fun m => ?_)]
      · walk_at "go"
        exact .of ⟨some (.int (i : Nat)), some (.int n), rfl, k3⟩
      · have hi := (List.getElem?_eq_some_iff.mp hn)
        obtain ⟨j, hj, e⟩ := List.mem_iff_getElem.mp m
        rw [List.length_take] at hj
        rw [List.getElem_take] at e
        have := (List.getElem_inj g.nd).mp (e.trans hi.2.symm)
        omega
    · intro σ' H' hW
      obtain ⟨y3, y4, rfl, k⟩ := hW.out
      exact z _ k
end
def aspDraw : ASp := fun ds P => ∃ n : Int, ds = [.pool, .int n] ∧ 0 < n ∧ n < 1073741824 ∧ ∀ v : Int, 0 ≤ v → v < n → P (.int v)
theorem draw {n : Int} {P : Dat → Prop} (h0 : 0 < n) (h1 : n < 1073741824) (h : ∀ v : Int, 0 ≤ v → v < n → P (.int v)) : aspDraw [.pool, .int n] P := ⟨n, rfl, h0, h1, h⟩
theorem sp_draw {K : PySem.W.Frag} {ca : Nat → Addr} : ∀ vs H Q E, toSp K ca aspDraw vs H Q E → spDrawP vs H Q E := fun vs H Q E ⟨po, F, ds, P, ok, r, ⟨n, e, n0, n1, hp⟩, k⟩ => by
  subst e
  cases r with
  | cons r1 r2 =>
    cases r2 with
    | cons r2 r3 =>
      cases r3
      cases r2
      cases r1 with
      | @pool p c e =>
        obtain ⟨h1, h2, h3⟩ := ok.po p c e
        refine ⟨p, c, n, rfl, h1, n0, n1, fun v H' v0 v1 hP kp => k (.int v) F H' _ (hp v v0 v1) ⟨fun _ f => f, fun _ f => .inl f, fun a o ha np => kp a o (np p c e) ha, ⟨fun a f => ?_, fun p' c' e' => ?_⟩⟩ (.int v)⟩
        · cases ea : H a with
          | none => exact absurd ea (ok.tr a f)
          | some o =>
            rw [kp a o (ok.np f p c e) ea]
            exact fun z => by cases z
        · rw [e] at e'
          cases e'
          exact ⟨hP, h2, h3⟩
theorem mt_any {W : Wd} {H0 H1 : Hp} {F : Addr → Prop} {H : Hp} {σ : L2.St} {env : List Sl} (no : ∀ (i : Nat) (xs : List Dat), env[i]? ≠ some (.o xs)) (m : Mt W H0 F H σ env) : Mt W H1 F H σ env :=
  ⟨m.ln, fun i s e => by
    obtain ⟨ov, e1, r⟩ := m.at_ i s e
    refine ⟨ov, e1, ?_⟩
    cases s with
    | u => trivial
    | d x => exact r
    | o xs => exact absurd e (no i xs), fun i j xs ys a e1 => absurd e1 (no i xs)⟩
theorem mt_startI {W : Wd} {H1 : Hp} {F : Addr → Prop} {H : Hp} {N : List Str} {x : Addr} {vs : List V} {ds : List Dat} (r : RvAll W F H vs ds) (hl : ds.length + 1 ≤ N.length) :
    Mt W H1 F H (L2.start N (.ref x :: vs)) (.u :: (ds.map Sl.d ++ List.replicate (N.length - (ds.length + 1)) .u)) := by
  have m : Mt W H F H (L2.start (N.drop 1) vs) (ds.map Sl.d ++ List.replicate ((N.drop 1).length - ds.length) .u) := mt_start r (by rw [List.length_drop]; omega)
  have e1 : (N.drop 1).length - ds.length = N.length - (ds.length + 1) := by rw [List.length_drop]; omega
  have lv := r.length
  have e2 : L2.start N (.ref x :: vs) = some (.ref x) :: L2.start (N.drop 1) vs := by
    unfold L2.start
    rw [List.length_drop, List.length_cons]
    show some (V.ref x) :: (vs.map some ++ List.replicate (N.length - (vs.length + 1)) none) = _
    rw [show N.length - (vs.length + 1) = N.length - 1 - vs.length by omega]
  rw [e1] at m
  rw [e2]
  have no : ∀ (i : Nat) (xs : List Dat), (ds.map Sl.d ++ List.replicate (N.length - (ds.length + 1)) Sl.u)[i]? ≠ some (.o xs) := fun i xs e => by
    rcases List.mem_append.mp (List.mem_of_getElem? e) with h | h
    · obtain ⟨_, _, z⟩ := List.mem_map.mp h
      cases z
    · cases (List.mem_replicate.mp h).2
  refine ⟨congrArg (· + 1) m.ln, fun i s e => ?_, fun i j xs ys a e => ?_⟩
  · cases i with
    | zero =>
      cases e
      exact ⟨_, rfl, trivial⟩
    | succ i => exact (mt_any no m).at_ i s e
  · cases i with
    | zero => cases e
    | succ i => exact absurd e (no i xs)
theorem fn_init {K : PySem.W.Frag} {ca : Nat → Addr} {c : Nat} {asp : ASpI} {N : List Str} {vs : List V} {H : Hp} {Q : VK} {E : XK} {ts : TS} {ai : List Sl → (List Dat → Prop) → Prop} (h : toSpI K ca c asp vs H Q E) (hs : ∀ po, AIni ⟨K, ca, po⟩ c 0 ts ai)
    (hl : ∀ ds P, asp ds P → ds.length + 1 ≤ N.length) (hb : ∀ ds P, asp ds P → ai (.u :: (ds.map Sl.d ++ List.replicate (N.length - (ds.length + 1)) .u)) P) : ts { nx := fun _ H' => Q .non H', rt := Q } (L2.start N vs) H := by
  obtain ⟨po, F, H1, x, dx, ws, ds, P, rfl, rfl, hx, hdx, hne, ok, r, a, k⟩ := h
  have x1 : Ext ⟨K, ca, po⟩ F H1 F (upd H1 dx (.own x)) := Ext.lay ok hdx
  have hx1 : upd H1 dx (.own x) x = none := by rw [upd_ne (fun z => hne z.symm)]; exact hx
  have x2 : Ext ⟨K, ca, po⟩ F (upd H1 dx (.own x)) F (upd (upd H1 dx (.own x)) x (.ins (ca c) dx [])) := Ext.lay x1.ok hx1
  have x3 := x1.trans ok x2
  exact (hs po).run H1 x dx _ _ F F _ [] [] { nx := fun _ H' => Q .non H', rt := Q } P hx ok x3 (fun f => ok.tr x f hx) upd_same (Nat.le_refl _) (by rw [List.take_zero]; exact .nil) (fun m _ => rfl)
    (mt_startI (r.sub (x3.sub ok)) (hl ds P a)) rfl (hb ds P a) fun es F' H' σ' p e rv => k es F' H' p e rv
theorem sp_lenI {K : PySem.W.Frag} {ca : Nat → Addr} {c : Nat} {asp : ASpI} {n : Nat} (hn : ∀ ds P, asp ds P → ds.length = n) {vs : List V} {H : Hp} {Q : VK} {E : XK} (h : toSpI K ca c asp vs H Q E) : vs.length = n + 1 := by
  obtain ⟨po, F, H1, x, dx, ws, ds, P, rfl, rfl, hx, hdx, hne, ok, r, a, k⟩ := h
  rw [List.length_cons, r.length, hn ds P a]
/-- a call ahead of the attributes -/
def iDrop (ea : AEx) (ai : List Sl → (List Dat → Prop) → Prop) : List Sl → (List Dat → Prop) → Prop := fun env P => ea env fun _ => ai env P
theorem i_drop {W : Wd} {c k : Nat} {te : TE} {ea : AEx} {ts : TS} {ai : List Sl → (List Dat → Prop) → Prop} (he : ∀ H0, AExp W H0 te ea) (h2 : AIni W c k ts ai) : AIni W c k (tSeq (tDrop te) ts) (iDrop ea ai) :=
  ⟨fun H1 x dx σ env F1 F H fs ds De P hx ok1 b nf hX ln r no m s0 q kk => by
  refine (he H1).run σ env F H _ _ b.ok m q fun d F' H' v p x1 rv => ?_
  have hX' : H' x = some (.ins (W.ca c) dx fs) := x1.kp x _ hX fun p c e => (ok1.pne hx p c e).1
  have nf' : ¬ F' x := fun f => by
    rcases x1.dn x f with z | z
    · exact nf z
    · rw [z] at hX
      cases hX
  exact h2.run H1 x dx σ env F1 F' H' fs ds De P hx ok1 (b.trans ok1 x1) nf' hX' ln (r.sub (x1.sub b.ok)) no (m.ext b.ok x1) s0 p kk⟩
/-- a list or a tuple -/
def sqD (k : Bool) (xs : List Dat) : Dat := match k with
  | true => .tup xs
  | false => .lst xs
theorem kQ_sq {k : Bool} {xs : List Dat} {P : List Dat → Prop} (h : P xs) : kQ k (sqD k xs) P := by
  cases k with
  | true => exact h
  | false => exact h
theorem sQ_sq {k : Bool} {xs : List Dat} {P : List Dat → Prop} (h : P xs) : sQ (sqD k xs) P := by
  cases k with
  | true => exact h
  | false => exact h
theorem sp_exI {κ : Type} {K : PySem.W.Frag} {ca : Nat → Addr} {c : Nat} {a : κ → ASpI} {vs : List V} {H : Hp} {Q : VK} {E : XK} (h : toSpI K ca c (fun ds P => ∃ k, a k ds P) vs H Q E) : ∃ k, toSpI K ca c (a k) vs H Q E := by
  obtain ⟨po, F, H1, x, dx, ws, ds, P, e1, e2, hx, hdx, hne, ok, r, ⟨k, a⟩, z⟩ := h
  exact ⟨k, po, F, H1, x, dx, ws, ds, P, e1, e2, hx, hdx, hne, ok, r, a, z⟩
theorem kbm {X : Cx} {K : PySem.W.Frag} (hK : X.K = K) {o e : Expr} {es : List Expr} {to : TE} {t : TA} {name : Str} {apos cpos : Pos} {T id : String} {r : V → List V → Hp → VK → Prop}
    (pa : PlainAttrs T) (slot : Slot T name id) (hty : typeOf (.builtin id) = pure (.type "method_descriptor")) (hm : MtR X id r) (ho : PE X o to) (ha : PA X (e :: es) t)
    (hbase : attributeBase o name X.env (eval o X.env) = eval o X.env := by rfl)
    (hfew : ((backTo cpos (starEach (e :: es) X.env)).all (fun x => !x.1) && (backToKw cpos (keywordEach [] X.env)).all (fun x => x.1.isSome)
      && decide ((e :: es).length + ([] : List Keyword).length + (if ([] : List Keyword).isEmpty then 0 else 1) < 30)) = true := by rfl)
    (hline : (apos.endLine == cpos.line) = true := by rfl) (hs : starEach (e :: es) X.env = (false, eval e X.env) :: starEach es X.env := by rfl) (hplain : (backTo cpos (starEach es X.env)).any (·.1) = false := by rfl) :
    PE X (.Call (.Attribute o name apos) (e :: es) [] cpos) (tBM K T r to t) := by
  subst hK
  exact pe_bm pa slot hty hm ho ha hbase hfew hline hs hplain
def prT (x : Int × Int) : Dat := .tup [.int x.1, .int x.2]
structure GT (K : PySem.W.Frag) (C : Addr) : Prop where
  cl : Cls K C
  n_p : NoAttr K C "p"
  n_q : NoAttr K C "q"
  n_bases : NoAttr K C "bases"
def aspCheckPrimes : ASp := fun ds P => ∃ p q : Int, ds = [.int p, .int q] ∧ 3 ≤ p ∧ p ≤ 1000000 ∧ Pr p ∧ Pr q ∧ (p - 1) % q = 0 ∧ P .non
theorem sp_check_primes {K : PySem.W.Frag} {ca : Nat → Addr} : ∀ vs H Q E, toSp K ca aspCheckPrimes vs H Q E → spCheckPrimes vs H Q E := fun vs H Q E ⟨po, F, ds, P, ok, r, ⟨p, q, ed, h1, h2, h3, h4, h5, hp⟩, k⟩ => by
  subst ed
  have ev : vs = [V.int p, .int q] := RvAll.ints (ns := [p, q]) r
  subst ev
  exact ⟨p, q, rfl, h1, h2, h3, h4, h5, k _ F H _ hp (.refl ok) .non⟩
def aspCheckBases : ASp := fun ds P => ∃ (p q : Int) (bs : List Int), ds = [.int p, .int q, .lst (bs.map .int)] ∧ GOk p q bs ∧ P .non
theorem sp_check_bases {K : PySem.W.Frag} {ca : Nat → Addr} : ∀ vs H Q E, toSp K ca aspCheckBases vs H Q E → spCheckBases K vs H Q E := fun vs H Q E ⟨po, F, ds, P, ok, r, ⟨p, q, bs, ed, g, hp⟩, k⟩ => by
  subst ed
  cases r with
  | cons r1 r => cases r with
  | cons r2 r => cases r with
  | cons r3 r =>
    cases r
    cases r1
    cases r2
    cases r3 with
    | lst f h r =>
      have e := r.ints
      subst e
      exact ⟨p, q, _, bs, rfl, SqL.of h, g, fun H' s => k _ F H' _ hp (ext_same ok s) .non⟩
section
variable {P : Program} {w : World} {K : PySem.W.Frag} {mg : Str → Option Value} {base : Heap} {ca : Nat → Addr}
def aspGroupI : ASpI := fun ds P => ∃ (p q : Int) (bs : List Int), ds = [.int p, .int q, .lst (bs.map .int)] ∧ GOk p q bs ∧ P [.int p, .int q, .tup (bs.map .int)]
theorem ok_group_init {f : Addr} {fd : FuncData} (F : Fun K "__init__" "Group.__init__" s_Group___init__ f fd) (T0 : GT K (ca 0)) (B : Blt mg) (C__check_primes : C8.Cal P w K mg base 2 "_check_primes" (toSp K ca aspCheckPrimes) []) (C__check_bases : C8.Cal P w K mg base 3 "_check_bases" (toSp K ca aspCheckBases) []) :
    FnOk P w K mg base CX0 4 f fd ["self", "p", "q", "bases"] (toSpI K ca 0 aspGroupI) := by
  refine F.ok sc_Group___init__ (fun vs H Q E h => sp_lenI (n := 3) (fun ds P a => by obtain ⟨_, _, _, rfl, _⟩ := a; rfl) h) (fun cdv A outer s H vs Q E hr h => ⟨_, (pss_cons (ps_expr (C8.pe_c C__check_primes hr (by omega) rfl (pa_cons (pv 1) (pa_cons (pv 2) pa_nil))))
      (pss_cons (ps_expr (C8.pe_c C__check_bases hr (by omega) rfl (pa_cons (pv 1) (pa_cons (pv 2) (pa_cons (pv 3) pa_nil)))))
      (pss_cons (ps_fld (pv 0) (pv 1) rfl)
      (pss_cons (ps_fld (pv 0) (pv 2) rfl)
      (pss_cons (ps_fld (pv 0) (pe_callTy (ktupF (K := K) rfl) (by rfl) B.tuple bt_tuple (pa_cons (pv 3) pa_nil)) rfl) pss_nil))))),
    fn_init h (fun po => (i_drop (fun _ => (a_call (a_cons a_var (a_cons a_var a_nil)))) (i_drop (fun _ => (a_call (a_cons a_var (a_cons a_var (a_cons a_var a_nil))))) (i_cons T0.cl T0.n_p (k := 0) rfl (by decide) (by decide) (fun _ => a_var) (i_cons T0.cl T0.n_q (k := 1) rfl (by decide) (by decide) (fun _ => a_var) (i_cons T0.cl T0.n_bases (k := 2) rfl (by decide) (by decide) (fun _ => (a_b1 u_tupOf (a_pk a_var))) i_nil)))))) (fun ds P a => by obtain ⟨_, _, _, rfl, _⟩ := a; exact Nat.le_of_ble_eq_true rfl) ?_⟩)
  rintro ds P ⟨p, q, bs, rfl, g, hp⟩
  exact ⟨p, q, rfl, g.p3, g.pm, g.pp, g.qp, g.dv, p, q, bs, rfl, g, hp⟩
end
/-- a factor: a base, the name of an unknown; an equation: an element, factors -/
abbrev Fac := Int × Str
abbrev Eqn := Int × List Fac
/-- the number of an unknown -/
def look : List Str → List Int → Str → Int
  | u :: us, x :: xs, v => if u = v then x else look us xs v
  | _, _, _ => 0
/-- for each equation the product of its bases to the numbers of their unknowns -/
def side (p q : Int) (us : List Str) (xs : List Int) (e : Eqn) : Int := prZ p q (e.2.map fun f => (f.1, look us xs f.2))
section
variable {P : Dat → Prop} {p q : Prop}
theorem two_t : two true p q = p := rfl
theorem two_f : two false p q = q := rfl
theorem bQ_bl {b : Bool} {P : Bool → Prop} : bQ (.bl b) P = P b := rfl
theorem dQ_d {x : Dat} : dQ (.d x) P = P x := rfl
theorem dQ2_d {x : Dat} : dQ2 (.d x) P = P x := rfl
theorem dQ2_o {xs : List Dat} : dQ2 (.o xs) P = P (.lst xs) := rfl
theorem oQ_some {α : Type} {x : α} {P : α → Prop} : oQ (some x) P = P x := rfl
theorem oQ2_o {xs : List Dat} {P : List Dat → Prop} : oQ2 (.o xs) P = P xs := rfl
theorem lQ_lst {xs : List Dat} {P : List Dat → Prop} : lQ (.lst xs) P = P xs := rfl
theorem tQ_tup {xs : List Dat} {P : List Dat → Prop} : tQ (.tup xs) P = P xs := rfl
theorem sQ_lst {xs : List Dat} {P : List Dat → Prop} : sQ (.lst xs) P = P xs := rfl
theorem sQ_tup {xs : List Dat} {P : List Dat → Prop} : sQ (.tup xs) P = P xs := rfl
theorem kQ_t {xs : List Dat} {P : List Dat → Prop} : kQ true (.tup xs) P = P xs := rfl
theorem kQ_l {xs : List Dat} {P : List Dat → Prop} : kQ false (.lst xs) P = P xs := rfl
theorem kI_i {C : Int → Int → Prop} {g : Int → Int → Dat} {i j : Int} : kI C g (.int i) (.int j) P = (C i j ∧ P (g i j)) := rfl
theorem kI0_i {g : Int → Int → Dat} {i j : Int} : kI0 g (.int i) (.int j) P = P (g i j) := rfl
theorem kEq_i {n : Bool} {i j : Int} : kEq n (.int i) (.int j) P = P (.bl (if n then !decide (i = j) else decide (i = j))) := rfl
theorem kEq_s {n : Bool} {i j : Str} : kEq n (.str i) (.str j) P = P (.bl (if n then !decide (i = j) else decide (i = j))) := rfl
theorem kEq_b {n : Bool} {i j : Bool} : kEq n (.bl i) (.bl j) P = P (.bl (if n then !decide (i = j) else decide (i = j))) := rfl
theorem kFld_o {c i : Nat} {ds : List Dat} : kFld c i (.obj c ds) P = oQ ds[i]? P := propext ⟨fun h => h.2, fun h => ⟨rfl, h⟩⟩
theorem kIx_l {xs : List Dat} {i : Int} : kIx (.lst xs) (.int i) P = oQ (atI xs i) P := rfl
theorem kIx_t {xs : List Dat} {i : Int} : kIx (.tup xs) (.int i) P = oQ (atI xs i) P := rfl
theorem atD {α : Type} {xs : List α} {z : Int} {j : Nat} {v : α} (e : z = (j : Int)) (h : xs[j]? = some v) : atI xs z = some v := by
  have lt := (List.getElem?_eq_some_iff.mp h).1
  unfold atI ixN
  rw [if_pos (by omega), if_pos (by omega)]
  show xs[z.toNat]? = _
  rw [e, Int.toNat_natCast]
  exact h
theorem atI_0 {α : Type} {x : α} {xs : List α} : atI (x :: xs) 0 = some x := by
  show atI _ ((0 : Nat) : Int) = _
  exact atD rfl rfl
theorem atI_1 {α : Type} {x y : α} {xs : List α} : atI (x :: y :: xs) 1 = some y := by
  show atI _ ((1 : Nat) : Int) = _
  exact atD rfl rfl
theorem atI_2 {α : Type} {x y z : α} {xs : List α} : atI (x :: y :: z :: xs) 2 = some z := by
  show atI _ ((2 : Nat) : Int) = _
  exact atD rfl rfl
theorem atI_3 {α : Type} {x y z t : α} {xs : List α} : atI (x :: y :: z :: t :: xs) 3 = some t := by
  show atI _ ((3 : Nat) : Int) = _
  exact atD rfl rfl
theorem kMax2_i {i j : Int} : kMax2 (.int i) (.int j) P = P (.int (if j > i then j else i)) := rfl
theorem kCatT_t {xs ys : List Dat} : kCatT (.tup xs) (.tup ys) P = (xs.length + ys.length ≤ 100000 ∧ P (.tup (xs ++ ys))) := rfl
theorem kCatL_l {xs ys : List Dat} {P : List Dat → Prop} : kCatL (.lst xs) (.lst ys) P = (xs.length + ys.length ≤ 100000 ∧ P (xs ++ ys)) := rfl
theorem kCatS_s {x y : Str} : kCatS (.str x) (.str y) P = (x.length + y.length ≤ 100000 ∧ P (.str (x ++ y))) := rfl
theorem kInt_i {i : Int} : kInt (.int i) P = P (.int i) := rfl
theorem kNeg_i {i : Int} : kNeg (.int i) P = P (.int (-i)) := rfl
theorem kStr_i {i : Int} : kStr (.int i) P = (i.natAbs < 1000000 ∧ P (.str (toString i))) := rfl
theorem kIsO_o {c : Nat} {ds : List Dat} : kIsO c (.obj c ds) P = P (.bl true) := propext ⟨fun h => h.2, fun h => ⟨rfl, h⟩⟩
theorem aTest_eq {ea : AEx} {env : List Sl} {P : Bool → Prop} : aTest ea env P = ea env fun x => bQ x P := by
  unfold aTest
  congr
  funext x
  cases x <;> rfl
theorem gCons_c {g : ATg} {ag : List Dat → List Sl → (List Sl → Prop) → Prop} {d : Dat} {ds : List Dat} {env : List Sl} {P : List Sl → Prop} : gConsA g ag (d :: ds) env P = g d env fun env2 => ag ds env2 P := rfl
theorem gNil_n {env : List Sl} {P : List Sl → Prop} : gNilA [] env P = P env := rfl
theorem dAt_0 {s : Sl} {r : List Sl} : dAt (s :: r) 0 = s := rfl
theorem dAt_s {s : Sl} {r : List Sl} {i : Nat} : dAt (s :: r) (i + 1) = dAt r i := rfl
end
section
variable {T : String} {P : Dat → Prop}
theorem kIsT_non : kIsT T .non P = P (.bl (decide ("NoneType" = T) || (decide ("NoneType" = "bool") && decide (T = "int")))) := rfl
theorem kIsT_bl {b : Bool} : kIsT T (.bl b) P = P (.bl (decide ("bool" = T) || (decide ("bool" = "bool") && decide (T = "int")))) := rfl
theorem kIsT_int {b : Int} : kIsT T (.int b) P = P (.bl (decide ("int" = T) || (decide ("int" = "bool") && decide (T = "int")))) := rfl
theorem kIsT_str {b : Str} : kIsT T (.str b) P = P (.bl (decide ("str" = T) || (decide ("str" = "bool") && decide (T = "int")))) := rfl
theorem kIsT_lst {b : List Dat} : kIsT T (.lst b) P = P (.bl (decide ("list" = T) || (decide ("list" = "bool") && decide (T = "int")))) := rfl
theorem kIsT_tup {b : List Dat} : kIsT T (.tup b) P = P (.bl (decide ("tuple" = T) || (decide ("tuple" = "bool") && decide (T = "int")))) := rfl
theorem kIsN_non {n : Bool} : kIsN n .non .non P = P (.bl (!n)) := rfl
theorem kIsN_bl {n b : Bool} : kIsN n (.bl b) .non P = P (.bl n) := rfl
theorem kIsN_int {n : Bool} {b : Int} : kIsN n (.int b) .non P = P (.bl n) := rfl
theorem kIsN_str {n : Bool} {b : Str} : kIsN n (.str b) .non P = P (.bl n) := rfl
theorem kIsN_lst {n : Bool} {b : List Dat} : kIsN n (.lst b) .non P = P (.bl n) := rfl
theorem kIsN_tup {n : Bool} {b : List Dat} : kIsN n (.tup b) .non P = P (.bl n) := rfl
theorem kIsN_obj {n : Bool} {c : Nat} {b : List Dat} : kIsN n (.obj c b) .non P = P (.bl n) := rfl
theorem kEq_nn {n : Bool} : kEq n .non .non P = P (.bl (!n)) := rfl
end
theorem lcA_filL {α : Type} {f : α → Dat} {xs : List α} {el : Dat → (Option Dat → Prop) → Prop} {P : List Dat → Prop} (g : α → Dat) (c : α → Bool) (h : ∀ x ∈ xs, ∀ Q : Option Dat → Prop, (c x = true → Q (some (g x))) → (c x = false → Q none) → el (f x) Q) (k : P ((xs.filter c).map g)) : lcA el P (xs.map f) [] := by
  have gen : ∀ (ys : List α) (acc : List Dat), (∀ x ∈ ys, ∀ Q : Option Dat → Prop, (c x = true → Q (some (g x))) → (c x = false → Q none) → el (f x) Q) → P (acc ++ (ys.filter c).map g) → lcA el P (ys.map f) acc := by
    intro ys
    induction ys with
    | nil =>
      intro acc _ k
      rw [List.filter_nil, List.map_nil, List.append_nil] at k
      exact k
    | cons y ys ih =>
      intro acc h k
      refine h y List.mem_cons_self _ (fun e => ?_) (fun e => ?_)
      · show lcA el P (ys.map f) (acc ++ [g y])
        refine ih _ (fun x hx => h x (List.mem_cons_of_mem _ hx)) ?_
        rw [List.filter_cons, e, if_pos rfl, List.map_cons] at k
        rw [List.append_assoc]
        exact k
      · show lcA el P (ys.map f) acc
        refine ih _ (fun x hx => h x (List.mem_cons_of_mem _ hx)) ?_
        rw [List.filter_cons, e, if_neg Bool.false_ne_true] at k
        exact k
  exact gen xs [] h k
theorem mem_ints {x : Int} {xs : List Int} : Dat.int x ∈ xs.map Dat.int ↔ x ∈ xs := ⟨fun h => by
  obtain ⟨y, hy, e⟩ := List.mem_map.mp h
  cases e
  exact hy, fun h => List.mem_map.mpr ⟨x, h, rfl⟩⟩
theorem flat_all (xs : List Int) : (xs.map Dat.int).all flatD = true := List.all_eq_true.mpr fun d hd => by
  obtain ⟨y, hy, e⟩ := List.mem_map.mp hd
  subst e
  rfl
theorem kIn_i {n : Bool} {x : Int} {xs : List Int} {P : Dat → Prop} (h : P (.bl (if n then !decide (x ∈ xs) else decide (x ∈ xs)))) : kIn n (.int x) (.lst (xs.map .int)) P := ⟨rfl, flat_all xs, fun b hb => by
  have e : b = decide (x ∈ xs) := by
    rw [mem_ints] at hb
    by_cases hx : x ∈ xs
    · rw [decide_eq_true hx]
      exact hb.mpr hx
    · rw [decide_eq_false hx]
      exact Bool.eq_false_iff.mpr fun z => hx (hb.mp z)
  subst e
  exact h⟩
theorem ix_any {α : Type} {f : α → Dat} {xs : List α} {v : Int} {P : Dat → Prop} (h0 : 0 ≤ v) (h1 : v < xs.length) (h : ∀ x ∈ xs, P (f x)) : kIx (.lst (xs.map f)) (.int v) P := by
  have lt : v.toNat < xs.length := by omega
  rw [kIx_l, atD (j := v.toNat) (v := f xs[v.toNat]) (by omega) (by rw [List.getElem?_map, List.getElem?_eq_getElem lt]; rfl)]
  exact h _ (List.getElem_mem lt)
theorem ix_at {α : Type} {f : α → Dat} {xs : List α} {v : Int} {j : Nat} {x : α} {P : Dat → Prop} (e : v = (j : Int)) (h1 : xs[j]? = some x) (h : P (f x)) : kIx (.lst (xs.map f)) (.int v) P := by
  rw [kIx_l, atD (j := j) (v := f x) e (by rw [List.getElem?_map, h1]; rfl)]
  exact h
theorem ix_atT {α : Type} {f : α → Dat} {xs : List α} {v : Int} {j : Nat} {x : α} {P : Dat → Prop} (e : v = (j : Int)) (h1 : xs[j]? = some x) (h : P (f x)) : kIx (.tup (xs.map f)) (.int v) P := ix_at (f := f) e h1 h
theorem oa_at {α : Type} {f : α → Dat} {xs : List α} {v : Int} {j : Nat} {x : α} {P : Dat → Prop} (e : v = (j : Int)) (h1 : xs[j]? = some x) (h : P (f x)) : oQ (atI (xs.map f) v) P := ix_at (f := f) e h1 h
theorem oa_any {α : Type} {f : α → Dat} {xs : List α} {v : Int} {P : Dat → Prop} (h0 : 0 ≤ v) (h1 : v < xs.length) (h : ∀ x ∈ xs, P (f x)) : oQ (atI (xs.map f) v) P := ix_any (f := f) h0 h1 h
/-- what comes after a statement, by a name: nothing looks into it -/
theorem seqG {a b : ASt} {D : AEnds} {env : List Sl} (h : ∀ N : List Sl → Prop, N = b D → a { D with nx := N } env) : sSeq a b D env := h _ rfl
local macro_rules | `(tactic| walk_at "dd") => `(tactic| simp only [elA, sSeq, sNext, sIf, sAsg, sSetO, sRet, sRetN, sDrop, sPar, sFz, sApp, sAug, sFor, oQ2_o, dQ_d, dQ2_d, dQ2_o, dAt_0, dAt_s, aVar, aPeek, aC, aFz, a2, a2F, a1, a1F, aCons, aNil, aTup, aTest_eq, aNot, aAnd, aOr, bQ_bl, aAndV, aOrV, aNotV, aIf, aChain, kI_i, kI0_i, kEq_i, kEq_s, kEq_b, kFld_o, oQ_some, aCall, aMeth, aMake, iSeq, lQ_lst, tQ_tup, sQ_lst, sQ_tup, iRan, gA, gTu, gNil_n, gCons_c, aLc, wipeA, kLen, kTupOf, kQ_t, kQ_l, iZipA, iEnA, aSlF, aSlT, aoN, aoS, aRevT, aRevL, kMax2_i, kCatS_s, kCatT_t, kCatL_l, kInt_i, kNeg_i, true_and, aYes, iCons, iNil, iDrop, kIsO_o, two_t, two_f, kIx_l, kIx_t, atI_0, atI_1, atI_2, atI_3, Bool.false_eq_true, if_false, if_true, kStr_i, kIsT_non, kIsT_bl, kIsT_int, kIsT_str, kIsT_lst, kIsT_tup, kIsN_non, kIsN_bl, kIsN_int, kIsN_str, kIsN_lst, kIsN_tup, kIsN_obj, kEq_nn, String.reduceEq, decide_true, decide_false, Bool.or_false, Bool.false_or, Bool.true_or, Bool.or_true, Bool.and_true, Bool.true_and, Bool.and_false, Bool.false_and, Bool.not_true, Bool.not_false, reduceCtorEq,
  List.map_cons, List.map_nil, List.cons_append, List.nil_append, List.length_cons, List.length_nil, Nat.reduceAdd, Nat.reduceSub, List.replicate_succ, List.replicate_zero, List.set_cons_zero, List.set_cons_succ, List.getElem?_cons_zero, List.getElem?_cons_succ])
local macro_rules | `(tactic| walk_at "dx") => `(tactic| simp only [elA, sNext, sAsg, sSetO, sRet, sRetN, sDrop, sPar, sFz, sApp, sAug, sFor, oQ2_o, dQ_d, dQ2_d, dQ2_o, dAt_0, dAt_s, aVar, aPeek, aC, aFz, a2, a2F, a1, a1F, aCons, aNil, aTup, aTest_eq, aNot, aAnd, aOr, bQ_bl, aAndV, aOrV, aNotV, aIf, aChain, kI_i, kI0_i, kEq_i, kEq_s, kEq_b, kFld_o, oQ_some, aCall, aMeth, aMake, iSeq, lQ_lst, tQ_tup, sQ_lst, sQ_tup, iRan, gA, gTu, gNil_n, gCons_c, aLc, wipeA, kLen, kTupOf, kQ_t, kQ_l, iZipA, iEnA, aSlF, aSlT, aoN, aoS, aRevT, aRevL, kMax2_i, kCatS_s, kCatT_t, kCatL_l, kInt_i, kNeg_i, true_and, aYes, iCons, iNil, iDrop, kIsO_o, two_t, two_f, kIx_l, kIx_t, atI_0, atI_1, atI_2, atI_3, Bool.false_eq_true, if_false, if_true, kStr_i, kIsT_non, kIsT_bl, kIsT_int, kIsT_str, kIsT_lst, kIsT_tup, kIsN_non, kIsN_bl, kIsN_int, kIsN_str, kIsN_lst, kIsN_tup, kIsN_obj, kEq_nn, String.reduceEq, decide_true, decide_false, Bool.or_false, Bool.false_or, Bool.true_or, Bool.or_true, Bool.and_true, Bool.true_and, Bool.and_false, Bool.false_and, Bool.not_true, Bool.not_false, reduceCtorEq,
  List.map_cons, List.map_nil, List.cons_append, List.nil_append, List.length_cons, List.length_nil, Nat.reduceAdd, Nat.reduceSub, List.replicate_succ, List.replicate_zero, List.set_cons_zero, List.set_cons_succ, List.getElem?_cons_zero, List.getElem?_cons_succ])
local macro_rules | `(tactic| walk_at "dk") => `(tactic| simp -implicitDefEqProofs only [elA, sSeq, sNext, sIf, sAsg, sSetO, sRet, sRetN, sDrop, sPar, sFz, sApp, sAug, sFor, oQ2_o, dQ_d, dQ2_d, dQ2_o, dAt_0, dAt_s, aVar, aPeek, aC, aFz, a2, a2F, a1, a1F, aCons, aNil, aTup, aTest_eq, aNot, aAnd, aOr, bQ_bl, aAndV, aOrV, aNotV, aIf, aChain, kI_i, kI0_i, kEq_i, kEq_s, kEq_b, kFld_o, oQ_some, aCall, aMeth, aMake, iSeq, lQ_lst, tQ_tup, sQ_lst, sQ_tup, iRan, gA, gTu, gNil_n, gCons_c, aLc, wipeA, kLen, kTupOf, kQ_t, kQ_l, iZipA, iEnA, aSlF, aSlT, aoN, aoS, aRevT, aRevL, kMax2_i, kCatS_s, kCatT_t, kCatL_l, kInt_i, kNeg_i, true_and, aYes, iCons, iNil, iDrop, kIsO_o, two_t, two_f, kIx_l, kIx_t, atI_0, atI_1, atI_2, atI_3, Bool.false_eq_true, if_false, if_true, kStr_i, kIsT_non, kIsT_bl, kIsT_int, kIsT_str, kIsT_lst, kIsT_tup, kIsN_non, kIsN_bl, kIsN_int, kIsN_str, kIsN_lst, kIsN_tup, kIsN_obj, kEq_nn, String.reduceEq, decide_true, decide_false, Bool.or_false, Bool.false_or, Bool.true_or, Bool.or_true, Bool.and_true, Bool.true_and, Bool.and_false, Bool.false_and, Bool.not_true, Bool.not_false, reduceCtorEq,
  List.map_cons, List.map_nil, List.cons_append, List.nil_append, List.length_cons, List.length_nil, Nat.reduceAdd, Nat.reduceSub, List.replicate_succ, List.replicate_zero, List.set_cons_zero, List.set_cons_succ, List.getElem?_cons_zero, List.getElem?_cons_succ])
local macro_rules | `(tactic| walk_at "dy") => `(tactic| simp -implicitDefEqProofs only [elA, sNext, sAsg, sSetO, sRet, sRetN, sDrop, sPar, sFz, sApp, sAug, sFor, oQ2_o, dQ_d, dQ2_d, dQ2_o, dAt_0, dAt_s, aVar, aPeek, aC, aFz, a2, a2F, a1, a1F, aCons, aNil, aTup, aTest_eq, aNot, aAnd, aOr, bQ_bl, aAndV, aOrV, aNotV, aIf, aChain, kI_i, kI0_i, kEq_i, kEq_s, kEq_b, kFld_o, oQ_some, aCall, aMeth, aMake, iSeq, lQ_lst, tQ_tup, sQ_lst, sQ_tup, iRan, gA, gTu, gNil_n, gCons_c, aLc, wipeA, kLen, kTupOf, kQ_t, kQ_l, iZipA, iEnA, aSlF, aSlT, aoN, aoS, aRevT, aRevL, kMax2_i, kCatS_s, kCatT_t, kCatL_l, kInt_i, kNeg_i, true_and, aYes, iCons, iNil, iDrop, kIsO_o, two_t, two_f, kIx_l, kIx_t, atI_0, atI_1, atI_2, atI_3, Bool.false_eq_true, if_false, if_true, kStr_i, kIsT_non, kIsT_bl, kIsT_int, kIsT_str, kIsT_lst, kIsT_tup, kIsN_non, kIsN_bl, kIsN_int, kIsN_str, kIsN_lst, kIsN_tup, kIsN_obj, kEq_nn, String.reduceEq, decide_true, decide_false, Bool.or_false, Bool.false_or, Bool.true_or, Bool.or_true, Bool.and_true, Bool.true_and, Bool.and_false, Bool.false_and, Bool.not_true, Bool.not_false, reduceCtorEq,
  List.map_cons, List.map_nil, List.cons_append, List.nil_append, List.length_cons, List.length_nil, Nat.reduceAdd, Nat.reduceSub, List.replicate_succ, List.replicate_zero, List.set_cons_zero, List.set_cons_succ, List.getElem?_cons_zero, List.getElem?_cons_succ])
theorem okE_str {x : Str} (h : PyData.strOk x = true) (n : Nat) : okE n (.str x) := ⟨h, Nat.zero_le n⟩
theorem okE_two {a b : Dat} {n : Nat} (h1 : okE n a) (h2 : okE n b) : ∀ d ∈ [a, b], okE n d := fun d hd => by
  rcases List.mem_cons.mp hd with rfl | hd
  · exact h1
  · rw [List.mem_singleton.mp hd]
    exact h2
mutual
/-- data without objects, dicts, the pool -/
def plD : Dat → Bool
  | .non => true
  | .bl _ => true
  | .int _ => true
  | .str _ => true
  | .lst xs => plAll xs
  | .tup xs => plAll xs
  | _ => false
def plAll : List Dat → Bool
  | [] => true
  | x :: xs => plD x && plAll xs
end
theorem plAll_get : ∀ {xs : List Dat} {i : Nat} {x : Dat}, plAll xs = true → xs[i]? = some x → plD x = true
  | [], _, _, _, e => by cases e
  | y :: ys, 0, x, h, e => by
    have h : (plD y && plAll ys) = true := h
    rw [Bool.and_eq_true] at h
    cases e
    exact h.1
  | y :: ys, i + 1, x, h, e => by
    have h : (plD y && plAll ys) = true := h
    rw [Bool.and_eq_true] at h
    exact plAll_get h.2 (i := i) (by simpa using e)
theorem plAll_of : ∀ {xs : List Dat}, (∀ x ∈ xs, plD x = true) → plAll xs = true
  | [], _ => rfl
  | x :: xs, h => by
    show (plD x && plAll xs) = true
    rw [h x List.mem_cons_self, plAll_of fun y hy => h y (List.mem_cons_of_mem _ hy)]
    rfl
/-- what _law_same compares with, of so many levels -/
def okS : Nat → Dat → Prop
  | _, .non => True
  | _, .bl _ => True
  | _, .int _ => True
  | _, .str _ => True
  | n + 1, .lst ds => ds.length ≤ 1000000 ∧ ∀ d ∈ ds, okS n d
  | n + 1, .tup ds => ds.length ≤ 1000000 ∧ ∀ d ∈ ds, okS n d
  | _, _ => False
abbrev s__law_same : Stmt := top 37
theorem sc__law_same : FnScope ["actual", "due", "k"] ["actual", "due"] (defScope s__law_same) := ⟨rfl, rfl, rfl, by decide +kernel, rfl, by decide +kernel, by decide +kernel⟩
section
variable {P : Program} {w : World} {K : PySem.W.Frag} {mg : Str → Option Value} {base : Heap} {ca : Nat → Addr}
def aspSame : Nat → ASp
  | 0 => fun _ _ => False
  | n + 1 => fun ds P => ∃ a d : Dat, ds = [a, d] ∧ plD a = true ∧ okS n d ∧ ∀ b : Bool, (b = true ↔ a = d) → P (.bl b)
theorem same_step {n : Nat} {f : Addr} {fd : FuncData} (F : Fun K "_law_same" "_law_same" s__law_same f fd) (B : Blt mg) (C__law_same : C8.Cal P w K mg base n "_law_same" (toSp K ca (aspSame n)) []) : FnOk P w K mg base CX0 (n + 1) f fd ["actual", "due"] (toSp K ca (aspSame (n + 1))) := by
  refine F.ok sc__law_same (fun vs H Q E h => sp_len (n := 2) (fun ds P a => by obtain ⟨_, _, rfl, _⟩ := a; rfl) h) (fun cdv A outer s H vs Q E hr h => ⟨_, (pss_cons (ps_if (PW.pt (pw_or (pt_val (pe_callB (kisi (K := K) rfl) (by rfl) B.isinstance bt_isinstance (pa_cons (pv 1) (pa_cons (pe_bltn (v := .ty "tuple") (u := .type "tuple") (by rfl) B.tuple bt_tuple rfl) pa_nil)))) (pw_or1 (pt_val (pe_callB (kisi (K := K) rfl) (by rfl) B.isinstance bt_isinstance (pa_cons (pv 1) (pa_cons (pe_bltn (v := .ty "list") (u := .type "list") (by rfl) B.list bt_list rfl) pa_nil))))))) (pss_cons (ps_if (PW.pt (pw_or (pt_cmpR op_ne (pe_callB (kisi (K := K) rfl) (by rfl) B.isinstance bt_isinstance (pa_cons (pv 1) (pa_cons (pe_bltn (v := .ty "tuple") (u := .type "tuple") (by rfl) B.tuple bt_tuple rfl) pa_nil))) (pe_callB (kisi (K := K) rfl) (by rfl) B.isinstance bt_isinstance (pa_cons (pv 0) (pa_cons (pe_bltn (v := .ty "tuple") (u := .type "tuple") (by rfl) B.tuple bt_tuple rfl) pa_nil))) (nomark _)) (pw_or1 (pt_cmpR op_ne (pe_callB (kisi (K := K) rfl) (by rfl) B.isinstance bt_isinstance (pa_cons (pv 1) (pa_cons (pe_bltn (v := .ty "list") (u := .type "list") (by rfl) B.list bt_list rfl) pa_nil))) (pe_callB (kisi (K := K) rfl) (by rfl) B.isinstance bt_isinstance (pa_cons (pv 0) (pa_cons (pe_bltn (v := .ty "list") (u := .type "list") (by rfl) B.list bt_list rfl) pa_nil))) (nomark _))))) (pss_one (ps_ret pe_bl)) pss_nil)
      (pss_cons (ps_if (pt_cmpR op_ne (pe_callB (klen (K := K) rfl) (by rfl) B.len bt_len (pa_cons (pv 0) pa_nil)) (pe_callB (klen (K := K) rfl) (by rfl) B.len bt_len (pa_cons (pv 1) pa_nil)) (nomark _)) (pss_one (ps_ret pe_bl)) pss_nil)
      (pss_cons (ps_for PassesOwn.never rfl (pi_range1 rfl B.range (pa_cons (pe_callB (klen (K := K) rfl) (by rfl) B.len bt_len (pa_cons (pv 1) pa_nil)) pa_nil)) (pg_name (i := 2) sc__law_same.nd rfl (.inl rfl))
      (pss_one (ps_if (pt_not (pt_val (C8.pe_c C__law_same hr (by omega) rfl (pa_cons (pe_ix (kixs (K := K) rfl) (pv 0) (pv 2) (fun _ _ => rfl)) (pa_cons (pe_ix (kixs (K := K) rfl) (pv 1) (pv 2) (fun _ _ => rfl)) pa_nil))))) (pss_one (ps_ret pe_bl)) pss_nil)))
      (pss_one (ps_ret pe_bl))))) pss_nil)
      (pss_cons (ps_if (PW.pt (pw_or (pt_cmpR op_isN (pv 1) pe_non (nomark _)) (pw_or1 (pt_val (pe_callB (kisi (K := K) rfl) (by rfl) B.isinstance bt_isinstance (pa_cons (pv 1) (pa_cons (pe_bltn (v := .ty "bool") (u := .type "bool") (by rfl) B.bool bt_bool rfl) pa_nil))))))) (pss_one (ps_ret (pe_and (pe_cmpR op_eq (pe_cmpR op_isN (pv 0) pe_non (nomark _)) (pe_cmpR op_isN (pv 1) pe_non (nomark _)) (nomark _)) (pe_and (pe_or (pe_cmpR op_isN (pv 1) pe_non (nomark _)) (pe_one (pe_callB (kisi (K := K) rfl) (by rfl) B.isinstance bt_isinstance (pa_cons (pv 0) (pa_cons (pe_bltn (v := .ty "bool") (u := .type "bool") (by rfl) B.bool bt_bool rfl) pa_nil))))) (pe_one (pe_cmpR op_eq (pv 0) (pv 1) (nomark _))))))) pss_nil)
      (pss_cons (ps_if (pt_val (pe_callB (kisi (K := K) rfl) (by rfl) B.isinstance bt_isinstance (pa_cons (pv 1) (pa_cons (pe_bltn (v := .ty "int") (u := .type "int") (by rfl) B.int bt_int rfl) pa_nil)))) (pss_one (ps_ret (pe_and (pe_callB (kisi (K := K) rfl) (by rfl) B.isinstance bt_isinstance (pa_cons (pv 0) (pa_cons (pe_bltn (v := .ty "int") (u := .type "int") (by rfl) B.int bt_int rfl) pa_nil))) (pe_and (pe_not (pe_callB (kisi (K := K) rfl) (by rfl) B.isinstance bt_isinstance (pa_cons (pv 0) (pa_cons (pe_bltn (v := .ty "bool") (u := .type "bool") (by rfl) B.bool bt_bool rfl) pa_nil)))) (pe_one (pe_cmpR op_eq (pv 0) (pv 1) (nomark _))))))) pss_nil)
      (pss_one (ps_ret (pe_and (pe_callB (kisi (K := K) rfl) (by rfl) B.isinstance bt_isinstance (pa_cons (pv 0) (pa_cons (pe_bltn (v := .ty "str") (u := .type "str") (by rfl) B.str bt_str rfl) pa_nil))) (pe_one (pe_cmpR op_eq (pv 0) (pv 1) (nomark _))))))))),
    fn_run h (fun po => (s_seq (s_if (fun _ => (a_or (a_tb (a_isT (by decide) a_var)) (a_tb (a_isT (by decide) a_var)))) (s_seq (s_if (fun _ => (a_or (a_test (a_op pst_rv rok_ne (a_isT (by decide) a_var) (a_isT (by decide) a_var))) (a_test (a_op pst_rv rok_ne (a_isT (by decide) a_var) (a_isT (by decide) a_var))))) (s_ret fun _ => a_bl) s_next)
      (s_seq (s_if (fun _ => (a_test (a_op pst_rv rok_ne (a_b1 u_len (a_pk a_var)) (a_b1 u_len (a_pk a_var))))) (s_ret fun _ => a_bl) s_next)
      (s_seq (s_for (vs := [2]) (fun _ => (i_ran1 (a_cons (a_b1 u_len (a_pk a_var)) a_nil))) (fun _ => (g_name (by decide)))
      (s_if (fun _ => (a_not (a_tb (a_call (a_cons (a_op pst_pk rok_ix (a_pk a_var) a_var) (a_cons (a_op pst_pk rok_ix (a_pk a_var) a_var) a_nil)))))) (s_ret fun _ => a_bl) s_next))
      (s_ret fun _ => a_bl)))) s_next)
      (s_seq (s_if (fun _ => (a_or (a_test (a_op pst_rv rok_isN a_var a_non)) (a_tb (a_isT (by decide) a_var)))) (s_ret fun _ => (a_andV (a_op pst_rv rok_eq (a_op pst_rv rok_isN a_var a_non) (a_op pst_rv rok_isN a_var a_non)) (a_andV (a_orV (a_op pst_rv rok_isN a_var a_non) (a_isT (by decide) a_var)) (a_op pst_rv rok_eq a_var a_var)))) s_next)
      (s_seq (s_if (fun _ => (a_tb (a_isT (by decide) a_var))) (s_ret fun _ => (a_andV (a_isT (by decide) a_var) (a_andV (a_notV (a_isT (by decide) a_var)) (a_op pst_rv rok_eq a_var a_var)))) s_next)
      (s_ret fun _ => (a_andV (a_isT (by decide) a_var) (a_op pst_rv rok_eq a_var a_var))))))) (fun ds P a => by obtain ⟨_, _, rfl, _⟩ := a; exact Nat.le_of_ble_eq_true rfl) ?_⟩)
  rintro ds P ⟨a, d, rfl, ha, hd, hp⟩
  have no : ∀ {x : Bool}, x = false → ¬ a = d → P (.bl x) := fun {x} e h => hp x ⟨fun z => (by rw [e] at z; cases z), fun z => absurd z h⟩
  refine seqG fun N0 hN0 => ?_
  cases d with
  | non => cases a <;> first | (cases ha; done) | (walk_at "dd"; subst hN0; walk_at "dd"; exact hp _ (by simp))
  | bl b => cases a <;> first | (cases ha; done) | (walk_at "dd"; subst hN0; walk_at "dd"; exact hp _ (by simp))
  | int b => cases a <;> first | (cases ha; done) | (walk_at "dd"; subst hN0; walk_at "dd"; exact hp _ (by simp))
  | str b => cases a <;> first | (cases ha; done) | (walk_at "dd"; subst hN0; walk_at "dd"; exact hp _ (by simp))
  | lst ys =>
    obtain ⟨n, rfl⟩ : ∃ m, n = m + 1 := by
      cases n with
      | zero => exact hd.elim
      | succ n => exact ⟨n, rfl⟩
    obtain ⟨hl, hd⟩ := hd
    cases a with
    | lst xs =>
      walk_at "dd"
      refine twoN (fun e => ?_) (fun e => ?_)
      · refine no rfl fun z => e ?_
        rw [Dat.lst.injEq] at z
        rw [z]
      · have el : xs.length = ys.length := by omega
        refine ⟨by omega, by omega, ?_⟩
        refine forA_ran (fun i env => ∃ y, env = [.d (.lst xs), .d (.lst ys), y] ∧ ∀ j < i, xs[j]? = ys[j]?) ⟨_, rfl, fun j hj => absurd hj (Nat.not_lt_zero _)⟩ ?_ ?_
        · rintro i env hi ⟨y, rfl, hj⟩ N hN
          have hie : i < ys.length := by omega
          have hid : i < xs.length := by omega
          walk_at "dd"
          rw [atD (Int.zero_add _) (List.getElem?_eq_getElem hid), atD (Int.zero_add _) (List.getElem?_eq_getElem hie)]
          refine ⟨_, _, rfl, plAll_get (show plAll xs = true from ha) (List.getElem?_eq_getElem hid), hd _ (List.getElem_mem hie), fun b hb => ?_⟩
          walk_at "dd"
          cases b with
          | true =>
            refine hN _ ⟨_, rfl, fun j h => ?_⟩
            by_cases hji : j < i
            · exact hj j hji
            · have : j = i := by omega
              subst this
              rw [List.getElem?_eq_getElem hid, List.getElem?_eq_getElem hie, hb.mp rfl]
          | false =>
            refine no rfl fun z => ?_
            rw [Dat.lst.injEq] at z
            subst z
            exact absurd (hb.mpr rfl) (by decide)
        · rintro env ⟨y, rfl, hj⟩
          walk_at "dd"
          refine hp _ ⟨fun _ => ?_, fun _ => rfl⟩
          congr 1
          refine List.ext_getElem? fun j => ?_
          by_cases h : j < ys.length
          · exact hj j h
          · rw [List.getElem?_eq_none (by omega), List.getElem?_eq_none (by omega)]
    | non => walk_at "dd"; exact no rfl (by simp)
    | bl b => walk_at "dd"; exact no rfl (by simp)
    | int b => walk_at "dd"; exact no rfl (by simp)
    | str b => walk_at "dd"; exact no rfl (by simp)
    | tup b => walk_at "dd"; exact no rfl (by simp)
    | _ => cases ha
  | tup ys =>
    obtain ⟨n, rfl⟩ : ∃ m, n = m + 1 := by
      cases n with
      | zero => exact hd.elim
      | succ n => exact ⟨n, rfl⟩
    obtain ⟨hl, hd⟩ := hd
    cases a with
    | tup xs =>
      walk_at "dd"
      refine twoN (fun e => ?_) (fun e => ?_)
      · refine no rfl fun z => e ?_
        rw [Dat.tup.injEq] at z
        rw [z]
      · have el : xs.length = ys.length := by omega
        refine ⟨by omega, by omega, ?_⟩
        refine forA_ran (fun i env => ∃ y, env = [.d (.tup xs), .d (.tup ys), y] ∧ ∀ j < i, xs[j]? = ys[j]?) ⟨_, rfl, fun j hj => absurd hj (Nat.not_lt_zero _)⟩ ?_ ?_
        · rintro i env hi ⟨y, rfl, hj⟩ N hN
          have hie : i < ys.length := by omega
          have hid : i < xs.length := by omega
          walk_at "dd"
          rw [atD (Int.zero_add _) (List.getElem?_eq_getElem hid), atD (Int.zero_add _) (List.getElem?_eq_getElem hie)]
          refine ⟨_, _, rfl, plAll_get (show plAll xs = true from ha) (List.getElem?_eq_getElem hid), hd _ (List.getElem_mem hie), fun b hb => ?_⟩
          walk_at "dd"
          cases b with
          | true =>
            refine hN _ ⟨_, rfl, fun j h => ?_⟩
            by_cases hji : j < i
            · exact hj j hji
            · have : j = i := by omega
              subst this
              rw [List.getElem?_eq_getElem hid, List.getElem?_eq_getElem hie, hb.mp rfl]
          | false =>
            refine no rfl fun z => ?_
            rw [Dat.tup.injEq] at z
            subst z
            exact absurd (hb.mpr rfl) (by decide)
        · rintro env ⟨y, rfl, hj⟩
          walk_at "dd"
          refine hp _ ⟨fun _ => ?_, fun _ => rfl⟩
          congr 1
          refine List.ext_getElem? fun j => ?_
          by_cases h : j < ys.length
          · exact hj j h
          · rw [List.getElem?_eq_none (by omega), List.getElem?_eq_none (by omega)]
    | non => walk_at "dd"; exact no rfl (by simp)
    | bl b => walk_at "dd"; exact no rfl (by simp)
    | int b => walk_at "dd"; exact no rfl (by simp)
    | str b => walk_at "dd"; exact no rfl (by simp)
    | lst b => walk_at "dd"; exact no rfl (by simp)
    | _ => cases ha
  | pool => cases n <;> exact hd.elim
  | obj c xs => cases n <;> exact hd.elim
  | dK xs => cases n <;> exact hd.elim
  | dT ks xs => cases n <;> exact hd.elim
  | rng lo hi => cases n <;> exact hd.elim
  | cell xs => cases n <;> exact hd.elim
theorem ok_law_same {f : Addr} {fd : FuncData} (F : Fun K "_law_same" "_law_same" s__law_same f fd) (B : Blt mg) (mf : mg "_law_same" = some (.ref f)) (bf : Binds K fd ["actual", "due"] []) :
    ∀ n, FnOk P w K mg base CX0 n f fd ["actual", "due"] (toSp K ca (aspSame n))
  | 0 => ⟨fun _ _ _ _ ⟨_, _, _, _, _, _, h, _⟩ => h.elim, fun _ _ _ _ _ _ _ _ _ _ _ _ _ ⟨_, _, _, _, _, _, h, _⟩ => h.elim⟩
  | n + 1 => same_step F B ⟨⟨f, fd, _, [], ok_law_same F B mf bf n, mf, F.kp, bf, .nil⟩⟩
end
abbrev s__law_power : Stmt := top 38
theorem sc__law_power : FnScope ["base", "exponent", "modulus", "result", "k"] ["base", "exponent", "modulus"] (defScope s__law_power) := ⟨rfl, rfl, rfl, by decide +kernel, rfl, by decide +kernel, by decide +kernel⟩
section
variable {P : Program} {w : World} {K : PySem.W.Frag} {mg : Str → Option Value} {base : Heap}
def spLPower : Sp := fun vs H Q _ => ∃ a e m : Int, vs = [.int a, .int e, .int m] ∧ 1 < m ∧ m < 2147483648 ∧ e < 4611686018427387904 ∧ 0 ≤ e ∧ Q (.int (a ^ e.toNat % m)) H
theorem ok_law_power {f : Addr} {fd : FuncData} (F : Fun K "_law_power" "_law_power" s__law_power f fd) (B : Blt mg) : FnOk P w K mg base CX0 1 f fd ["base", "exponent", "modulus"] spLPower := by
  refine F.ok sc__law_power (fun vs H Q E h => ?_) (fun cdv A outer s H vs Q E hr h => ?_)
  · obtain ⟨a, e, m, rfl, _⟩ := h
    rfl
  · obtain ⟨a, e, m, rfl, m0, m1, e1, e0, z⟩ := h
    refine ⟨_, (pss_cons (ps_set (i := 3) sc__law_power.nd rfl (.inl rfl) pe_int)
      (pss_cons (ps_for PassesOwn.never rfl (pi_range1 rfl B.range (pa_cons (pv 1) pa_nil)) (pg_name (i := 4) sc__law_power.nd rfl (.inl rfl))
      (pss_one (ps_set (i := 3) sc__law_power.nd rfl (.inl rfl) (pe_op op_mod (pe_callTy call_int1 (by rfl) B.int bt_int (pa_cons (pe_op op_mul (pv 3) (pv 0)) pa_nil)) (pv 2)))))
      (pss_one (ps_ret (pv 3))))), ?_⟩
    walk_at "go"
    refine for_range (fun i σ' H' => At (∃ y, σ' = [some (.int a), some (.int e), some (.int m), some (.int (a ^ i % m)), y] ∧ H' = H)) (.of ⟨none, ?_, rfl⟩) ?_ ?_
    · rw [Int.pow_zero, Int.emod_eq_of_lt (by omega) m0]
      rfl
    · intro i σ' H' hi hW
      obtain ⟨y, rfl, rfl⟩ := hW.out
      have bd := emod_bd (a := a ^ i) (m := m) (by omega)
      walk_at "go"
      refine .of ⟨some (V.int (0 + (i : Int))), ?_, rfl⟩
      rw [Int.pow_succ, ← mul_emod_l]
      rfl
    · intro σ' H' hW
      obtain ⟨y, rfl, rfl⟩ := hW.out
      walk_at "go"
      exact z
end
def aspLPower : ASp := fun ds P => ∃ a e m : Int, ds = [.int a, .int e, .int m] ∧ 1 < m ∧ m < 2147483648 ∧ e < 4611686018427387904 ∧ 0 ≤ e ∧ P (.int (a ^ e.toNat % m))
theorem sp_lpower {K : PySem.W.Frag} {ca : Nat → Addr} : ∀ vs H Q E, toSp K ca aspLPower vs H Q E → spLPower vs H Q E := fun vs H Q E ⟨po, F, ds, P, ok, r, ⟨a, e, m, ed, h1, h2, h3, h4, hp⟩, k⟩ => by
  subst ed
  have ev : vs = [V.int a, .int e, .int m] := RvAll.ints (ns := [a, e, m]) r
  subst ev
  exact ⟨a, e, m, rfl, h1, h2, h3, h4, k _ F H _ hp (.refl ok) (.int _)⟩
abbrev s__law_raised : Stmt := top 39
theorem sc__law_raised : FnScope ["group", "element", "exponent"] ["group", "element", "exponent"] (defScope s__law_raised) := ⟨rfl, rfl, rfl, by decide +kernel, rfl, by decide +kernel, by decide +kernel⟩
abbrev s__law_product : Stmt := top 40
theorem sc__law_product : FnScope ["group", "pairs", "result", "element", "exponent"] ["group", "pairs"] (defScope s__law_product) := ⟨rfl, rfl, rfl, by decide +kernel, rfl, by decide +kernel, by decide +kernel⟩
abbrev s__law_numbers : Stmt := top 43
theorem sc__law_numbers : FnScope ["pool", "group", "count", "k"] ["pool", "group", "count"] (defScope s__law_numbers) := ⟨rfl, rfl, rfl, by decide +kernel, rfl, by decide +kernel, by decide +kernel⟩
section
variable {P : Program} {w : World} {K : PySem.W.Frag} {mg : Str → Option Value} {base : Heap} {ca : Nat → Addr}
def aspLRaised : ASp := fun ds P => ∃ (p q e k : Int) (bs : List Int), ds = [lgD p q bs, .int e, .int k] ∧ 0 < q ∧ q < 2147483648 ∧ 1 < p ∧ p < 2147483648 ∧ P (.int (rz p q e k))
theorem ok_law_raised {f : Addr} {fd : FuncData} (F : Fun K "_law_raised" "_law_raised" s__law_raised f fd) (B : Blt mg) (C__law_power : C8.Cal P w K mg base 1 "_law_power" (toSp K ca aspLPower) []) : FnOk P w K mg base CX0 2 f fd ["group", "element", "exponent"] (toSp K ca aspLRaised) := by
  refine F.ok sc__law_raised (fun vs H Q E h => sp_len (n := 3) (fun ds P a => by obtain ⟨_, _, _, _, _, rfl, _⟩ := a; rfl) h) (fun cdv A outer s H vs Q E hr h => ⟨_, (pss_one (ps_ret (C8.pe_c C__law_power hr (by omega) rfl (pa_cons (pv 1) (pa_cons (pe_op op_mod (pe_callTy call_int1 (by rfl) B.int bt_int (pa_cons (pv 2) pa_nil)) (pe_ix (kixs (K := K) rfl) (pv 0) pe_int (fun _ _ => rfl))) (pa_cons (pe_ix (kixs (K := K) rfl) (pv 0) pe_int (fun _ _ => rfl)) pa_nil)))))),
    fn_run h (fun po => (s_ret fun _ => (a_call (a_cons a_var (a_cons (a_op pst_rv rok_I (a_b1 u_int a_var) (a_op pst_pk rok_ix (a_pk a_var) a_int)) (a_cons (a_op pst_pk rok_ix (a_pk a_var) a_int) a_nil)))))) (fun ds P a => by obtain ⟨_, _, _, _, _, rfl, _⟩ := a; exact Nat.le_of_ble_eq_true rfl) ?_⟩)
  rintro ds P ⟨p, q, e, k, bs, rfl, q0, q1, p0, p1, hp⟩
  have bd := emod_bd (a := k) q0
  refine ⟨propOnly (by walk_at "sd"), ?_⟩
  exact ⟨_, _, _, rfl, by omega, by omega, by omega, by omega, hp⟩
def aspLProduct : ASp := fun ds P => ∃ (p q : Int) (bs : List Int) (prs : List (Int × Int)), ds = [lgD p q bs, .lst (prs.map prT)] ∧ 0 < q ∧ q < 2147483648 ∧ 1 < p ∧ p < 2147483648 ∧ P (.int (prZ p q prs))
theorem ok_law_product {f : Addr} {fd : FuncData} (F : Fun K "_law_product" "_law_product" s__law_product f fd) (B : Blt mg) (C__law_raised : C8.Cal P w K mg base 2 "_law_raised" (toSp K ca aspLRaised) []) : FnOk P w K mg base CX0 3 f fd ["group", "pairs"] (toSp K ca aspLProduct) := by
  refine F.ok sc__law_product (fun vs H Q E h => sp_len (n := 2) (fun ds P a => by obtain ⟨_, _, _, _, rfl, _⟩ := a; rfl) h) (fun cdv A outer s H vs Q E hr h => ⟨_, (pss_cons (ps_set (i := 2) sc__law_product.nd rfl (.inl rfl) pe_int)
      (pss_cons (ps_for PassesOwn.never rfl (kpil (K := K) rfl (pv 1)) (kgtup (K := K) (n := 2) rfl rfl (pgs_cons (pg_name (i := 3) sc__law_product.nd rfl (.inl rfl)) (pgs_cons (pg_name (i := 4) sc__law_product.nd rfl (.inl rfl)) pgs_nil)))
      (pss_one (ps_set (i := 2) sc__law_product.nd rfl (.inl rfl) (pe_op op_mod (pe_callTy call_int1 (by rfl) B.int bt_int (pa_cons (pe_op op_mul (pv 2) (C8.pe_c C__law_raised hr (by omega) rfl (pa_cons (pv 0) (pa_cons (pv 3) (pa_cons (pv 4) pa_nil))))) pa_nil)) (pe_ix (kixs (K := K) rfl) (pv 0) pe_int (fun _ _ => rfl))))))
      (pss_one (ps_ret (pv 2))))),
    fn_run h (fun po => (s_seq (s_set fun _ => a_int)
      (s_seq (s_for (vs := [3, 4]) (fun _ => (i_list a_var)) (fun _ => (g_tup (g_cons (g_name (by decide)) (g_cons (g_name (by decide)) g_nil tot_name) tot_name)))
      (s_set fun _ => (a_op pst_rv rok_I (a_b1 u_int (a_op pst_rv rok_I a_var (a_call (a_cons a_var (a_cons a_var (a_cons a_var a_nil)))))) (a_op pst_pk rok_ix (a_pk a_var) a_int))))
      (s_ret fun _ => a_var)))) (fun ds P a => by obtain ⟨_, _, _, _, rfl, _⟩ := a; exact Nat.le_of_ble_eq_true rfl) ?_⟩)
  rintro ds P ⟨p, q, bs, prs, rfl, q0, q1, p0, p1, hp⟩
  refine forA_map (fun i env => ∃ y3 y4, env = [.d (lgD p q bs), .d (.lst (prs.map prT)), .d (.int (prF p q 1 (prs.take i))), y3, y4]) ⟨_, _, rfl⟩ ?_ ?_
  · rintro i ⟨e, k⟩ env hi ⟨y3, y4, rfl⟩ N hN
    have bd := prF_bd (q := q) p0 (prs.take i) 1 (by omega) p0
    refine ⟨p, q, _, _, bs, rfl, q0, q1, p0, p1, ?_⟩
    refine ⟨propOnly (by walk_at "sd"), propOnly (by walk_at "sd"), hN _ ⟨.d (.int e), .d (.int k), ?_⟩⟩
    rw [List.take_add_one, hi]
    show _ = [_, _, Sl.d (.int (prF p q 1 (prs.take i ++ [(e, k)]))), _, _]
    rw [prF_snoc]
    rfl
  · rintro env ⟨y3, y4, rfl⟩
    show P (.int (prF p q 1 (prs.take prs.length)))
    rw [List.take_length]
    exact hp
def aspLNumbers : ASp := fun ds P => ∃ (p q n : Int) (bs : List Int), ds = [.pool, lgD p q bs, .int n] ∧ 0 < q ∧ q < 1073741824 ∧ 0 ≤ n ∧ n ≤ 1000 ∧ ∀ ns : List Int, (ns.length : Int) = n → (∀ x ∈ ns, 0 ≤ x ∧ x < q) → P (.lst (ns.map .int))
theorem ok_law_numbers {f : Addr} {fd : FuncData} (F : Fun K "_law_numbers" "_law_numbers" s__law_numbers f fd) (B : Blt mg) (C__law_draw : C8.Cal P w K mg base 1 "_law_draw" (toSp K ca aspDraw) []) : FnOk P w K mg base CX0 2 f fd ["pool", "group", "count"] (toSp K ca aspLNumbers) := by
  refine F.ok sc__law_numbers (fun vs H Q E h => sp_len (n := 3) (fun ds P a => by obtain ⟨_, _, _, _, rfl, _⟩ := a; rfl) h) (fun cdv A outer s H vs Q E hr h => ⟨_, (pss_one (ps_ret (pe_lc (own := [("k", 3)]) (g := gName 3) (tt := tYes) rfl sc__law_numbers.nd (pi_range1 rfl B.range (pa_cons (pv 2) pa_nil)) (blkOk_by (N := ["pool", "group", "count", "k"]) (sc := defScope s__law_numbers) (by decide +kernel))
        (fun _ _ _ _ _ => (pg_name (i := 3) sc__law_numbers.nd rfl (.inl rfl))) (fun _ _ _ _ _ => pts_nil)
        (fun _ _ _ _ _ => (C8.pe_c C__law_draw hr (by omega) rfl (pa_cons (pv 0) (pa_cons (pe_ix (kixs (K := K) rfl) (pv 1) pe_int (fun _ _ => rfl)) pa_nil))))))),
    fn_run h (fun po => (s_ret fun _ => (a_fz (a_lc (vs := [3]) (i_ran1 (a_cons a_var a_nil)) (g_name (by decide)) a_yes (a_call (a_cons a_var (a_cons (a_op pst_pk rok_ix (a_pk a_var) a_int) a_nil))))))) (fun ds P a => by obtain ⟨_, _, _, _, rfl, _⟩ := a; exact Nat.le_of_ble_eq_true rfl) ?_⟩)
  rintro ds P ⟨p, q, n, bs, rfl, q0, q1, n0, n1, hp⟩
  refine ⟨by omega, by omega, by rw [List.length_map, List.length_range]; omega, ?_⟩
  refine lcA_relL (fun _ y => ∃ m, y = Dat.int m ∧ 0 ≤ m ∧ m < q) (fun i hi Q hQ => ?_) fun ys pr => ?_
  · exact ⟨q, rfl, q0, q1, fun v v0 v1 => hQ _ ⟨v, rfl, v0, v1⟩⟩
  · obtain ⟨ns, rfl, l, pr⟩ := paired_ints pr
    rw [List.length_range] at l
    refine hp ns (by omega) fun x hx => ?_
    obtain ⟨_, _, h⟩ := paired_mem pr x hx
    exact h
end
def tabN : List (Nat × Nat) := [(23, 11), (47, 23), (59, 29), (103, 17), (83, 41), (137, 17), (29, 7), (607, 101), (11, 5), (53, 13)]
def tabI : List (Int × Int) := [(23, 11), (47, 23), (59, 29), (103, 17), (83, 41), (137, 17), (29, 7), (607, 101), (11, 5), (53, 13)]
def tab : List (Int × Int) := tabN.map fun x => ((x.1 : Int), (x.2 : Int))
theorem tab_eq : tab = tabI := rfl
def rootN (p q : Nat) : Nat := (List.range 38).foldl (fun r i => if r = 1 then (2 + i) ^ ((p - 1) / q) % p else r) 1
set_option maxRecDepth 100000 in
theorem tab_ok : ∀ x ∈ tabN, 3 ≤ x.1 ∧ x.1 ≤ 1000000 ∧ 3 ≤ x.2 ∧ x.2 ≤ 1100 ∧ (x.1 - 1) % x.2 = 0 ∧ (∀ d < 1001, 2 ≤ d → d * d ≤ x.1 → x.1 % d ≠ 0) ∧ (∀ d < 34, 2 ≤ d → d * d ≤ x.2 → x.2 % d ≠ 0) ∧
    1 < rootN x.1 x.2 ∧ rootN x.1 x.2 < x.1 ∧ rootN x.1 x.2 ^ x.2 % x.1 = 1 ∧ ∀ e < x.2, 1 ≤ e → rootN x.1 x.2 ^ e % x.1 ≠ 1 := by decide +kernel
/-- what the table's rows are -/
structure Row (p q R : Int) : Prop where
  p3 : 3 ≤ p
  pm : p ≤ 1000000
  q3 : 3 ≤ q
  qm : q ≤ 1100
  dv : (p - 1) % q = 0
  pp : Pr p
  qp : Pr q
  r1 : 1 < R
  rp : R < p
  rq : R ^ q.toNat % p = 1
  ro : ∀ e : Nat, 1 ≤ e → (e : Int) < q → R ^ e % p ≠ 1
theorem pr_of {n B : Nat} (h2 : 2 ≤ n) (hB : n < B * B) (h : ∀ d < B, 2 ≤ d → d * d ≤ n → n % d ≠ 0) : Pr (n : Int) := by
  refine ⟨by omega, fun d d2 dd e => ?_⟩
  obtain ⟨k, rfl⟩ : ∃ k : Nat, d = k := ⟨d.toNat, by omega⟩
  have kk : k * k ≤ n := by
    have : ((k * k : Nat) : Int) ≤ (n : Int) := by
      rw [Int.natCast_mul]
      exact dd
    omega
  have kB : k < B := by
    refine Nat.lt_of_not_le fun z => ?_
    have := Nat.mul_le_mul z z
    omega
  refine h k kB (by omega) kk ?_
  have : ((n % k : Nat) : Int) = 0 := by
    rw [Int.natCast_emod]
    exact e
  omega
theorem row_of {p q : Int} (h : (p, q) ∈ tab) : Row p q (rootN p.toNat q.toNat) := by
  unfold tab at h
  obtain ⟨⟨a, b⟩, hm, e⟩ := List.mem_map.mp h
  obtain ⟨rfl, rfl⟩ := Prod.mk.inj e
  obtain ⟨h1, h2, h3, h4, h5, h6, h7, h8, h9, h10, h11⟩ := tab_ok _ hm
  simp only at h1 h2 h3 h4 h5 h6 h7 h8 h9 h10 h11
  rw [Int.toNat_natCast, Int.toNat_natCast]
  have cast : ∀ e : Nat, ((rootN a b : Nat) : Int) ^ e % (a : Int) = ((rootN a b ^ e % a : Nat) : Int) := fun e => by
    rw [Int.natCast_emod, Int.natCast_pow]
  generalize rootN a b = R at h8 h9 h10 h11 cast
  refine ⟨by omega, by omega, by omega, by omega, ?_, pr_of (by omega) (B := 1001) (by omega) h6, pr_of (by omega) (B := 34) (by omega) h7, by omega, by omega, ?_, fun e e1 e2 => ?_⟩
  · rw [show (a : Int) - 1 = ((a - 1 : Nat) : Int) by omega, ← Int.natCast_emod, h5]
    rfl
  · rw [Int.toNat_natCast, cast, h10]
    rfl
  · rw [cast]
    have := h11 e (by omega) e1
    omega
/-- the powers of the root are different -/
theorem Row.inj {p q R : Int} (r : Row p q R) {i j : Nat} (hij : i < j) (hj : (j : Int) < q) : R ^ i % p ≠ R ^ j % p := by
  intro e
  have qn : ∃ n : Nat, q = n := ⟨q.toNat, by have := r.q3; omega⟩
  obtain ⟨n, rfl⟩ := qn
  have e2 : R ^ i * R ^ (n - i) % p = R ^ j * R ^ (n - i) % p := by rw [← mul_emod_l, e, mul_emod_l]
  rw [← Int.pow_add, ← Int.pow_add, show i + (n - i) = n by omega, show j + (n - i) = n + (j - i) by omega, Int.pow_add, ← mul_emod_l] at e2
  have rq := r.rq
  rw [Int.toNat_natCast] at rq
  rw [rq, Int.one_mul] at e2
  exact r.ro (j - i) (by omega) (by omega) e2.symm
theorem root_el {p q R : Int} (r : Row p q R) {e : Nat} (h1 : 1 ≤ e) (h2 : (e : Int) < q) : R ^ e % p ≠ 1 ∧ El p q (R ^ e % p) := by
  have hp := r.p3
  have bd := emod_bd (a := R ^ e) (m := p) (by omega)
  have ne := r.ro e h1 h2
  have pq : (R ^ e % p) ^ q.toNat % p = 1 := by
    rw [pow_emod, ← Int.pow_mul, Nat.mul_comm, Int.pow_mul, ← pow_emod, r.rq, Int.one_pow]
    exact Int.emod_eq_of_lt (by omega) (by omega)
  refine ⟨ne, ?_, bd.2, pq⟩
  refine Classical.byContradiction fun hz => ?_
  have z : R ^ e % p = 0 := by omega
  rw [z] at pq
  have q3 := r.q3
  rw [show q.toNat = (q.toNat - 1) + 1 by omega, Int.pow_succ, Int.mul_zero, Int.zero_emod] at pq
  omega
theorem nodup_le {α : Type} [DecidableEq α] : ∀ {l m : List α}, l.Nodup → (∀ x ∈ l, x ∈ m) → l.length ≤ m.length
  | [], _, _, _ => Nat.zero_le _
  | a :: l, m, h, s => by
    obtain ⟨n1, n2⟩ := List.nodup_cons.mp h
    have ha := s a (List.mem_cons_self ..)
    have ih := nodup_le (l := l) (m := m.erase a) n2 fun x hx => (List.mem_erase_of_ne (fun e => by subst e; exact n1 hx)).mpr (s x (List.mem_cons_of_mem _ hx))
    rw [List.length_erase_of_mem ha] at ih
    have := List.length_pos_of_mem ha
    rw [List.length_cons]
    omega
/-- what _law_group hands back -/
structure GG (p q : Int) (bs : List Int) (count least : Int) : Prop where
  tb : (p, q) ∈ tab
  ql : least ≤ q
  qc : count < q
  ln : (bs.length : Int) = count
  nd : bs.Nodup
  po : ∀ b ∈ bs, ∃ e : Nat, 1 ≤ e ∧ (e : Int) < q ∧ b = (rootN p.toNat q.toNat : Int) ^ e % p
def rootF (p q : Int) : Nat → Int
  | 0 => 1
  | i + 1 => if rootF p q i = 1 then (2 + i : Int) ^ ((p - 1) / q).toNat % p else rootF p q i
theorem rootF_nat (a b : Nat) (ha : 1 ≤ a) : ∀ i, rootF a b i = (((List.range i).foldl (fun r i => if r = 1 then (2 + i) ^ ((a - 1) / b) % a else r) 1 : Nat) : Int)
  | 0 => rfl
  | i + 1 => by
    rw [List.range_succ, List.foldl_append]
    show (if rootF a b i = 1 then _ else _) = _
    rw [rootF_nat a b ha i]
    generalize (List.range i).foldl (fun r i => if r = 1 then (2 + i) ^ ((a - 1) / b) % a else r) 1 = r
    show (if (r : Int) = 1 then _ else _) = ((if r = 1 then _ else _ : Nat) : Int)
    have e : (((a : Int) - 1) / (b : Int)).toNat = (a - 1) / b := by
      rw [show (a : Int) - 1 = ((a - 1 : Nat) : Int) by omega, ← Int.natCast_ediv, Int.toNat_natCast]
    by_cases h : r = 1
    · rw [if_pos (by omega), if_pos h, e, Int.natCast_emod, Int.natCast_pow]
      rfl
    · rw [if_neg (by omega), if_neg h]
theorem rootF_end {p q : Int} (h : 1 ≤ p) (hq : 0 ≤ q) : rootF p q 38 = (rootN p.toNat q.toNat : Int) := by
  obtain ⟨a, rfl⟩ : ∃ a : Nat, p = a := ⟨p.toNat, by omega⟩
  obtain ⟨b, rfl⟩ : ∃ b : Nat, q = b := ⟨q.toNat, by omega⟩
  rw [Int.toNat_natCast, Int.toNat_natCast, rootF_nat a b (by omega)]
  rfl
def okRow (count least : Int) (x : Int × Int) : Bool := decide (least ≤ x.2) && decide (count < x.2)
theorem mm (a b p : Int) : a % p * (b % p) % p = a * b % p := (Int.mul_emod a b p).symm
abbrev s__law_group : Stmt := top 42
theorem sc__law_group : FnScope ["pool", "count", "least", "pairs", "p", "q", "root", "number", "bases", "at", "step", "k", "exponent", "base", "pair"] ["pool", "count", "least"] (defScope s__law_group) := ⟨rfl, rfl, rfl, by decide +kernel, rfl, by decide +kernel, by decide +kernel⟩
section
variable {P : Program} {w : World} {K : PySem.W.Frag} {mg : Str → Option Value} {base : Heap} {ca : Nat → Addr}
def aspLGroup : ASp := fun ds P => ∃ count least : Int, ds = [.pool, .int count, .int least] ∧ 0 ≤ count ∧ count ≤ 1000 ∧ 0 < (tab.filter (okRow count least)).length ∧ ∀ p q bs, GG p q bs count least → P (lgD p q bs)
set_option maxHeartbeats 1000000 in
theorem ok_law_group {f : Addr} {fd : FuncData} (F : Fun K "_law_group" "_law_group" s__law_group f fd) (B : Blt mg) (C__law_draw : C8.Cal P w K mg base 1 "_law_draw" (toSp K ca aspDraw) []) (C__law_power : C8.Cal P w K mg base 1 "_law_power" (toSp K ca aspLPower) []) : FnOk P w K mg base CX0 2 f fd ["pool", "count", "least"] (toSp K ca aspLGroup) := by
  refine F.ok sc__law_group (fun vs H Q E h => sp_len (n := 3) (fun ds P a => by obtain ⟨_, _, rfl, _⟩ := a; rfl) h) (fun cdv A outer s H vs Q E hr h => ⟨_, (pss_cons (ps_set (i := 3) sc__law_group.nd rfl (.inl rfl) (pe_lst (pa_cons (pe_tupF (pa_cons pe_int (pa_cons pe_int pa_nil))) (pa_cons (pe_tupF (pa_cons pe_int (pa_cons pe_int pa_nil))) (pa_cons (pe_tupF (pa_cons pe_int (pa_cons pe_int pa_nil))) (pa_cons (pe_tupF (pa_cons pe_int (pa_cons pe_int pa_nil))) (pa_cons (pe_tupF (pa_cons pe_int (pa_cons pe_int pa_nil))) (pa_cons (pe_tupF (pa_cons pe_int (pa_cons pe_int pa_nil))) (pa_cons (pe_tupF (pa_cons pe_int (pa_cons pe_int pa_nil))) (pa_cons (pe_tupF (pa_cons pe_int (pa_cons pe_int pa_nil))) (pa_cons (pe_tupF (pa_cons pe_int (pa_cons pe_int pa_nil))) (pa_cons (pe_tupF (pa_cons pe_int (pa_cons pe_int pa_nil))) pa_nil))))))))))))
      (pss_cons (ps_setLc (i := 3) (own := [("pair", 14)]) (g := gName 14) rfl sc__law_group.nd rfl rfl (sw_true rfl rfl rfl (by decide +kernel)) (kpil (K := K) rfl (pv 3)) (blkOk_by (N := ["pool", "count", "least", "pairs", "p", "q", "root", "number", "bases", "at", "step", "k", "exponent", "base", "pair"]) (sc := defScope s__law_group) (by decide +kernel))
        (fun _ _ _ _ _ => (pg_name (i := 14) sc__law_group.nd rfl (.inl rfl))) (fun _ _ _ _ _ => pts_one (PW.pt (pw_and (pt_cmpR op_ge (pe_ix (kixs (K := K) rfl) (pv 14) pe_int (fun _ _ => rfl)) (pv 2) (nomark _)) (pw_and1 (pt_cmpR op_gt (pe_ix (kixs (K := K) rfl) (pv 14) pe_int (fun _ _ => rfl)) (pv 1) (nomark _))))))
        (fun _ _ _ _ _ => (pv 14)))
      (pss_cons (ps_asg (pe_ix (kixs (K := K) rfl) (pv 3) (C8.pe_c C__law_draw hr (by omega) rfl (pa_cons (pv 0) (pa_cons (pe_callB (klen (K := K) rfl) (by rfl) B.len bt_len (pa_cons (pv 3) pa_nil)) pa_nil))) (fun _ _ => rfl)) (kgtup (K := K) (n := 2) rfl rfl (pgs_cons (pg_name (i := 4) sc__law_group.nd rfl (.inl rfl)) (pgs_cons (pg_name (i := 5) sc__law_group.nd rfl (.inl rfl)) pgs_nil))))
      (pss_cons (ps_set (i := 6) sc__law_group.nd rfl (.inl rfl) pe_int)
      (pss_cons (ps_for PassesOwn.never rfl (pi_range2 rfl B.range (pa_cons pe_int (pa_cons pe_int pa_nil))) (pg_name (i := 7) sc__law_group.nd rfl (.inl rfl))
      (pss_one (ps_if (pt_cmpR op_eq (pv 6) pe_int (nomark _)) (pss_one (ps_set (i := 6) sc__law_group.nd rfl (.inl rfl) (C8.pe_c C__law_power hr (by omega) rfl (pa_cons (pv 7) (pa_cons (pe_op op_fdiv (pe_op op_sub (pv 4) pe_int) (pv 5)) (pa_cons (pv 4) pa_nil)))))) pss_nil)))
      (pss_cons (ps_set (i := 8) sc__law_group.nd rfl (.inl rfl) (pe_lst pa_nil))
      (pss_cons (ps_set (i := 9) sc__law_group.nd rfl (.inl rfl) (C8.pe_c C__law_draw hr (by omega) rfl (pa_cons (pv 0) (pa_cons (pe_op op_sub (pv 5) pe_int) pa_nil))))
      (pss_cons (ps_set (i := 10) sc__law_group.nd rfl (.inl rfl) (pe_op op_add pe_int (C8.pe_c C__law_draw hr (by omega) rfl (pa_cons (pv 0) (pa_cons (pe_op op_sub (pv 5) pe_int) pa_nil)))))
      (pss_cons (ps_for PassesOwn.never rfl (pi_range1 rfl B.range (pa_cons (pe_op op_sub (pv 5) pe_int) pa_nil)) (pg_name (i := 11) sc__law_group.nd rfl (.inl rfl))
      (pss_one (ps_if (pt_cmpR op_lt (pe_callB (klen (K := K) rfl) (by rfl) B.len bt_len (pa_cons (pv 8) pa_nil)) (pv 1) (nomark _)) (pss_cons (ps_set (i := 12) sc__law_group.nd rfl (.inl rfl) (pe_op op_add pe_int (pe_op op_mod (pe_callTy call_int1 (by rfl) B.int bt_int (pa_cons (pe_op op_add (pv 9) (pe_op op_mul (pv 11) (pv 10))) pa_nil)) (pe_op op_sub (pv 5) pe_int))))
      (pss_cons (ps_set (i := 13) sc__law_group.nd rfl (.inl rfl) (C8.pe_c C__law_power hr (by omega) rfl (pa_cons (pv 6) (pa_cons (pv 12) (pa_cons (pv 4) pa_nil)))))
      (pss_one (ps_if (pt_cmpR (knin (K := K) rfl) (pv 13) (pv 8) rfl) (pss_one (ps_expr (pe_bm PySem.F.plainAttrs_list PySem.F.slot_list_append PySem.F.type_list_append mt_append (pv 8) (pa_cons (pv 13) pa_nil)))) pss_nil)))) pss_nil)))
      (pss_cons (ps_for PassesOwn.never rfl (pi_range2 rfl B.range (pa_cons pe_int (pa_cons (pv 5) pa_nil))) (pg_name (i := 12) sc__law_group.nd rfl (.inl rfl))
      (pss_cons (ps_set (i := 13) sc__law_group.nd rfl (.inl rfl) (C8.pe_c C__law_power hr (by omega) rfl (pa_cons (pv 6) (pa_cons (pv 12) (pa_cons (pv 4) pa_nil)))))
      (pss_one (ps_if (PW.pt (pw_and (pt_cmpR (knin (K := K) rfl) (pv 13) (pv 8) rfl) (pw_and1 (pt_cmpR op_lt (pe_callB (klen (K := K) rfl) (by rfl) B.len bt_len (pa_cons (pv 8) pa_nil)) (pv 1) (nomark _))))) (pss_one (ps_expr (pe_bm PySem.F.plainAttrs_list PySem.F.slot_list_append PySem.F.type_list_append mt_append (pv 8) (pa_cons (pv 13) pa_nil)))) pss_nil))))
      (pss_one (ps_ret (pe_tupF (pa_cons (pv 4) (pa_cons (pv 5) (pa_cons (pv 8) pa_nil)))))))))))))))),
    fn_run h (fun po => (s_seq (s_set fun _ => (a_fz (a_lst (a_cons (a_tup (a_cons a_int (a_cons a_int a_nil))) (a_cons (a_tup (a_cons a_int (a_cons a_int a_nil))) (a_cons (a_tup (a_cons a_int (a_cons a_int a_nil))) (a_cons (a_tup (a_cons a_int (a_cons a_int a_nil))) (a_cons (a_tup (a_cons a_int (a_cons a_int a_nil))) (a_cons (a_tup (a_cons a_int (a_cons a_int a_nil))) (a_cons (a_tup (a_cons a_int (a_cons a_int a_nil))) (a_cons (a_tup (a_cons a_int (a_cons a_int a_nil))) (a_cons (a_tup (a_cons a_int (a_cons a_int a_nil))) (a_cons (a_tup (a_cons a_int (a_cons a_int a_nil))) a_nil)))))))))))))
      (s_seq (s_set fun _ => (a_fz (a_lc (vs := [14]) (i_list a_var) (g_name (by decide)) (a_and (a_test (a_op pst_rv rok_B0 (a_op pst_pk rok_ix (a_pk a_var) a_int) a_var)) (a_test (a_op pst_rv rok_B0 (a_op pst_pk rok_ix (a_pk a_var) a_int) a_var))) a_var)))
      (s_seq (s_asg (vs := [4, 5]) (fun _ => (a_op pst_pk rok_ix (a_pk a_var) (a_call (a_cons a_var (a_cons (a_b1 u_len (a_pk a_var)) a_nil))))) (fun _ => (g_tup (g_cons (g_name (by decide)) (g_cons (g_name (by decide)) g_nil tot_name) tot_name))))
      (s_seq (s_set fun _ => a_int)
      (s_seq (s_for (vs := [7]) (fun _ => (i_ran2 (a_cons a_int (a_cons a_int a_nil)))) (fun _ => (g_name (by decide)))
      (s_if (fun _ => (a_test (a_op pst_rv rok_eq a_var a_int))) (s_set fun _ => (a_call (a_cons a_var (a_cons (a_op pst_rv rok_I (a_op pst_rv rok_I0 a_var a_int) a_var) (a_cons a_var a_nil))))) s_next))
      (s_seq (s_setO fun _ => (a_lst a_nil))
      (s_seq (s_set fun _ => (a_call (a_cons a_var (a_cons (a_op pst_rv rok_I0 a_var a_int) a_nil))))
      (s_seq (s_set fun _ => (a_op pst_rv rok_I0 a_int (a_call (a_cons a_var (a_cons (a_op pst_rv rok_I0 a_var a_int) a_nil)))))
      (s_seq (s_for (vs := [11]) (fun _ => (i_ran1 (a_cons (a_op pst_rv rok_I0 a_var a_int) a_nil))) (fun _ => (g_name (by decide)))
      (s_if (fun _ => (a_test (a_op pst_rv rok_B0 (a_b1 u_len a_peek) a_var))) (s_seq (s_set fun _ => (a_op pst_rv rok_I0 a_int (a_op pst_rv rok_I (a_b1 u_int (a_op pst_rv rok_I0 a_var (a_op pst_rv rok_I a_var a_var))) (a_op pst_rv rok_I0 a_var a_int))))
      (s_seq (s_set fun _ => (a_call (a_cons a_var (a_cons a_var (a_cons a_var a_nil)))))
      (s_if (fun _ => (a_test (a_op pst_rv rok_in a_var a_peek))) (s_app fun _ => a_var) s_next))) s_next))
      (s_seq (s_for (vs := [12]) (fun _ => (i_ran2 (a_cons a_int (a_cons a_var a_nil)))) (fun _ => (g_name (by decide)))
      (s_seq (s_set fun _ => (a_call (a_cons a_var (a_cons a_var (a_cons a_var a_nil)))))
      (s_if (fun _ => (a_and (a_test (a_op pst_rv rok_in a_var a_peek)) (a_test (a_op pst_rv rok_B0 (a_b1 u_len a_peek) a_var)))) (s_app fun _ => a_var) s_next)))
      (s_fz (i := 8) (s_ret fun _ => (a_tup (a_cons a_var (a_cons a_var (a_cons a_var a_nil))))))))))))))))) (fun ds P a => by obtain ⟨_, _, rfl, _⟩ := a; exact Nat.le_of_ble_eq_true rfl) ?_⟩)
  rintro ds P ⟨count, least, rfl, n0, n1, hf, hp⟩
  walk_at "dd"
  refine ⟨by decide, ?_⟩
  refine lcA_filL (f := prT) (xs := tabI) prT (okRow count least) (fun x hx Q q1 q2 => ?_) ?_
  · unfold prT
    walk_at "dd"
    refine twoD (fun c1 => twoD (fun c2 => ?_) (fun c2 => ?_)) (fun c1 => ?_)
    · exact q1 (by unfold okRow; rw [decide_eq_true c1, decide_eq_true c2]; rfl)
    · exact q2 (by unfold okRow; rw [decide_eq_false c2, Bool.and_false])
    · exact q2 (by unfold okRow; rw [decide_eq_false c1, Bool.false_and])
  rw [← tab_eq]
  have hfm : ∀ x ∈ tab.filter (okRow count least), x ∈ tab ∧ least ≤ x.2 ∧ count < x.2 := fun x hx => by
    obtain ⟨h1, h2⟩ := List.mem_filter.mp hx
    unfold okRow at h2
    rw [Bool.and_eq_true, decide_eq_true_eq, decide_eq_true_eq] at h2
    exact ⟨h1, h2⟩
  have hfl : (tab.filter (okRow count least)).length ≤ 20 := Nat.le_trans (List.length_filter_le _ _) (Nat.le_of_ble_eq_true rfl)
  generalize tab.filter (okRow count least) = rows at hf hfm hfl ⊢
  refine ⟨_, rfl, by rw [List.length_map]; omega, by rw [List.length_map]; omega, fun v v0 v1 => ?_⟩
  rw [List.length_map] at v1
  obtain ⟨⟨p, q⟩, hpq⟩ : ∃ x, rows[v.toNat]? = some x := ⟨_, List.getElem?_eq_getElem (show v.toNat < rows.length by omega)⟩
  rw [kIx_l, atD (j := v.toNat) (v := prT (p, q)) (by omega) (by rw [List.getElem?_map, hpq]; rfl)]
  obtain ⟨hmt, hok1, hok2⟩ := hfm _ (List.mem_of_getElem? hpq)
  have row := row_of hmt
  have p3 := row.p3
  have pm := row.pm
  have q3 := row.q3
  have qm := row.qm
  have dv0 : 0 ≤ (p - 1) / q := Int.ediv_nonneg (by omega) (by omega)
  have dv1 : (p - 1) / q ≤ p - 1 := Int.ediv_le_self _ (by omega)
  generalize Dat.lst (rows.map prT) = RW
  unfold prT
  walk_at "dd"
  refine ⟨⟨by omega, by omega, by omega, by omega⟩, ?_⟩
  refine forA_ran (n := 38) (fun i env => ∃ y7, env = [.d .pool, .d (.int count), .d (.int least), .d RW, .d (.int p), .d (.int q), .d (.int (rootF p q i)), y7, .u, .u, .u, .u, .u, .u, .u]) ⟨.u, rfl⟩ ?_ ?_
  · rintro i env hi ⟨y7, rfl⟩ N hN
    walk_at "dd"
    refine twoD (fun c1 => ?_) (fun c1 => ?_)
    · refine ⟨⟨by omega, by omega⟩, ?_⟩
      refine ⟨_, _, _, rfl, by omega, by omega, by omega, dv0, hN _ ⟨.d (.int (2 + (i : Int))), ?_⟩⟩
      rw [show rootF p q (i + 1) = (2 + i : Int) ^ ((p - 1) / q).toNat % p by show (if _ then _ else _) = _; rw [if_pos c1]]
    · refine hN _ ⟨.d (.int (2 + (i : Int))), ?_⟩
      rw [show rootF p q (i + 1) = rootF p q i by show (if _ then _ else _) = _; rw [if_neg c1]]
  rintro env ⟨y7, rfl⟩
  rw [rootF_end (by omega) (by omega)]
  have r1 := row.r1
  have rp := row.rp
  generalize hR : ((rootN p.toNat q.toNat : Nat) : Int) = R at row r1 rp ⊢
  walk_at "dd"
  refine ⟨_, rfl, by omega, by omega, fun at' a0 a1 => ⟨_, rfl, by omega, by omega, fun st s0 s1 => ?_⟩⟩
  walk_at "dd"
  refine ⟨by omega, by omega, ?_⟩
  have GB : ∀ (ns : List Int) (e : Int), 1 ≤ e → e < q → (∀ b ∈ ns, ∃ e : Nat, 1 ≤ e ∧ (e : Int) < q ∧ b = R ^ e % p) → ∀ b ∈ ns ++ [R ^ e.toNat % p], ∃ e : Nat, 1 ≤ e ∧ (e : Int) < q ∧ b = R ^ e % p := fun ns e e1 e2 h b hb => by
    rcases List.mem_append.mp hb with hb | hb
    · exact h b hb
    · exact ⟨e.toNat, by omega, by omega, List.mem_singleton.mp hb⟩
  have ND : ∀ (ns : List Int) (x : Int), ns.Nodup → x ∉ ns → (ns ++ [x]).Nodup := fun ns x h n => List.nodup_append.mpr ⟨h, by simp, fun a ha b hb => by rw [List.mem_singleton.mp hb]; intro e; subst e; exact n ha⟩
  refine forA_ran (fun i env => ∃ ns y11 y12 y13, env = [.d .pool, .d (.int count), .d (.int least), .d RW, .d (.int p), .d (.int q), .d (.int R), y7, .o (ns.map Dat.int), .d (.int at'), .d (.int (1 + st)), y11, y12, y13, .u] ∧ ns.Nodup ∧ (ns.length : Int) ≤ count ∧ ∀ b ∈ ns, ∃ e : Nat, 1 ≤ e ∧ (e : Int) < q ∧ b = R ^ e % p) ⟨[], _, _, _, rfl, List.nodup_nil, n0, fun _ h => nomatch h⟩ ?_ ?_
  · rintro i env hi ⟨ns, y11, y12, y13, rfl, nd, ln, po⟩ N hN
    walk_at "dd"
    rw [List.length_map]
    refine twoD (fun c1 => ?_) (fun c1 => hN _ ⟨ns, _, _, _, rfl, nd, ln, po⟩)
    have bm := emod_bd (a := at' + (0 + (i : Int)) * (1 + st)) (m := q - 1) (by omega)
    refine ⟨.inl ⟨by omega, by omega⟩, ?_⟩
    refine ⟨by omega, ?_⟩
    generalize (at' + (0 + (i : Int)) * (1 + st)) % (q - 1) = ex at bm ⊢
    refine ⟨_, _, _, rfl, by omega, by omega, by omega, by omega, ?_⟩
    refine kIn_i ?_
    walk_at "dd"
    refine twoN (fun c2 => ?_) (fun c2 => hN _ ⟨ns, _, _, _, rfl, nd, ln, po⟩)
    refine ⟨by omega, hN _ ⟨ns ++ [R ^ (1 + ex).toNat % p], .d (.int (0 + (i : Int))), .d (.int (1 + ex)), .d (.int (R ^ (1 + ex).toNat % p)), ?_, ND _ _ nd c2, ?_, GB ns _ (by omega) (by omega) po⟩⟩
    · rw [List.map_append]
      rfl
    · rw [List.length_append]
      simp only [List.length_cons, List.length_nil]
      omega
  · rintro env ⟨ns, y11, y12, y13, rfl, nd, ln, po⟩
    walk_at "dd"
    refine ⟨⟨by omega, by omega, by omega, by omega⟩, ?_⟩
    refine forA_ran (fun i env => ∃ ns y12 y13, env = [.d .pool, .d (.int count), .d (.int least), .d RW, .d (.int p), .d (.int q), .d (.int R), y7, .o (ns.map Dat.int), .d (.int at'), .d (.int (1 + st)), y11, y12, y13, .u] ∧ ns.Nodup ∧ (ns.length : Int) ≤ count ∧ (∀ b ∈ ns, ∃ e : Nat, 1 ≤ e ∧ (e : Int) < q ∧ b = R ^ e % p) ∧ ((ns.length : Int) < count → ∀ e : Nat, 1 ≤ e → e < 1 + i → R ^ e % p ∈ ns)) ⟨ns, _, _, rfl, nd, ln, po, fun _ e e1 e2 => by omega⟩ ?_ ?_
    · rintro i env hi ⟨ns, y12, y13, rfl, nd, ln, po, al⟩ N hN
      have i2 : (1 : Int) + i < q := by omega
      have i3 : (1 + (i : Int)).toNat = 1 + i := by omega
      walk_at "dd"
      have skip : (R ^ (1 + (i : Int)).toNat % p ∈ ns ∨ ¬ (ns.length : Int) < count) → ((ns.length : Int) < count → ∀ e : Nat, 1 ≤ e → e < 1 + (i + 1) → R ^ e % p ∈ ns) := fun h hl e e1 e2 => by
        by_cases he : e < 1 + i
        · exact al hl e e1 he
        · have : e = 1 + i := by omega
          subst this
          rw [i3] at h
          exact h.resolve_right (fun z => z hl)
      refine ⟨_, _, _, rfl, by omega, by omega, by omega, by omega, ?_⟩
      refine kIn_i ?_
      walk_at "dd"
      rw [List.length_map]
      refine twoN (fun c2 => ?_) (fun c2 => hN _ ⟨ns, _, _, rfl, nd, ln, po, skip (.inl c2)⟩)
      refine twoD (fun c1 => ?_) (fun c1 => hN _ ⟨ns, _, _, rfl, nd, ln, po, skip (.inr c1)⟩)
      refine ⟨by omega, hN _ ⟨ns ++ [R ^ (1 + (i : Int)).toNat % p], .d (.int (1 + (i : Int))), .d (.int (R ^ (1 + (i : Int)).toNat % p)), ?_, ND _ _ nd c2, ?_, GB ns _ (by omega) i2 po, fun hl e e1 e2 => ?_⟩⟩
      · rw [List.map_append]
        rfl
      · rw [List.length_append]
        simp only [List.length_cons, List.length_nil]
        omega
      · by_cases he : e < 1 + i
        · exact List.mem_append_left _ (al c1 e e1 he)
        · have : e = 1 + i := by omega
          subst this
          rw [i3]
          exact List.mem_append_right _ (List.mem_singleton.mpr rfl)
    · rintro env ⟨ns, y12, y13, rfl, nd, ln, po, al⟩
      have full : (ns.length : Int) = count := by
        refine Classical.byContradiction fun hne => ?_
        have hl : (ns.length : Int) < count := by omega
        have al' := al hl
        have sub : ((List.range (q.toNat - 1)).map fun e => R ^ (e + 1) % p).length ≤ ns.length := by
          refine nodup_le ?_ fun x hx => ?_
          · refine List.pairwise_map.mpr (List.Pairwise.imp_of_mem (fun {a b} ha hb hab => ?_) List.pairwise_lt_range)
            have := List.mem_range.mp hb
            exact row.inj (show a + 1 < b + 1 by omega) (by omega)
          · obtain ⟨e, he, rfl⟩ := List.mem_map.mp hx
            have := List.mem_range.mp he
            exact al' (e + 1) (by omega) (by omega)
        rw [List.length_map, List.length_range] at sub
        omega
      walk_at "dd"
      exact hp p q ns ⟨hmt, hok1, hok2, full, nd, fun b hb => by
        obtain ⟨e, e1, e2, e3⟩ := po b hb
        exact ⟨e, e1, e2, by rw [hR]; exact e3⟩⟩
end
/-- the unknowns of a law's statement -/
def nmX (k : Nat) : Str := ("x" : Str) ++ (toString (0 + (k : Int)) : Str)
def nms (n : Nat) : List Str := (List.range n).map nmX
/-- a base, as far as the sums ask -/
def Rt (p q b : Int) : Prop := 0 ≤ b ∧ b < p ∧ b ^ q.toNat % p = 1
/-- what the laws' sums need of a group -/
structure GB (p q : Int) (bs : List Int) : Prop where
  p3 : 3 ≤ p
  pm : p ≤ 1000000
  q3 : 3 ≤ q
  qm : q ≤ 1100
  l1 : 0 < bs.length
  lm : bs.length ≤ 1000
  rt : ∀ b ∈ bs, Rt p q b
section
variable {P : Program} {w : World} {K : PySem.W.Frag} {mg : Str → Option Value} {base : Heap} {ca : Nat → Addr}
theorem ix_sq {α : Type} {k : Bool} {f : α → Dat} {xs : List α} {v : Int} {j : Nat} {x : α} {P : Dat → Prop} (e : v = (j : Int)) (h1 : xs[j]? = some x) (h : P (f x)) : kIx (sqD k (xs.map f)) (.int v) P := by
  cases k with
  | true => exact ix_atT (f := f) e h1 h
  | false => exact ix_at (f := f) e h1 h
end
theorem GG.okk {p q v l : Int} {bs : List Int} (g : GG p q bs (2 + v) l) (h0 : 0 ≤ v := by omega) (h1 : v ≤ 10 := by omega) : GOk p q bs := by
  have row := row_of g.tb
  have ln := g.ln
  refine ⟨row.p3, row.pm, row.pp, row.qp, row.dv, by omega, by omega, fun b hb => ?_, g.nd⟩
  obtain ⟨e, e1, e2, rfl⟩ := g.po b hb
  exact root_el row e1 e2
theorem GG.gb {p q v l : Int} {bs : List Int} (g : GG p q bs (2 + v) l) (h0 : 0 ≤ v := by omega) (h1 : v ≤ 10 := by omega) : GB p q bs := by
  have row := row_of g.tb
  have ln := g.ln
  have ok := g.okk h0 h1
  exact ⟨row.p3, row.pm, row.q3, row.qm, by omega, by omega, fun b hb => by
    obtain ⟨_, h1, h2, h3⟩ := ok.el b hb
    exact ⟨by omega, h2, h3⟩⟩
theorem same_ok {a d : Dat} {A B : Prop} {n : Nat} (hx : plD a = true) (hy : okS n d) (e : a = d) (h : B) : aspSame (n + 1) [a, d] fun x => bQ x fun b => two (!b) A B := ⟨a, d, rfl, hx, hy, fun b hb => by
  have := hb.mpr e
  subst this
  exact h⟩
theorem same_end {a d : Dat} {P : Dat → Prop} {n : Nat} (hx : plD a = true) (hy : okS n d) (e : a = d) (h : P (.bl true)) : aspSame (n + 1) [a, d] P := ⟨a, d, rfl, hx, hy, fun b hb => by
  have := hb.mpr e
  subst this
  exact h⟩
theorem okS_tup {n : Nat} {xs : List Dat} (l : xs.length ≤ 1000000) (h : ∀ x ∈ xs, okS n x) : okS (n + 1) (.tup xs) := ⟨l, h⟩
theorem okS_lst {n : Nat} {xs : List Dat} (l : xs.length ≤ 1000000) (h : ∀ x ∈ xs, okS n x) : okS (n + 1) (.lst xs) := ⟨l, h⟩
theorem okS_int (n : Nat) (i : Int) : okS n (.int i) := by cases n <;> trivial
theorem okS_str (n : Nat) (i : Str) : okS n (.str i) := by cases n <;> trivial
theorem okS_map {α : Type} {f : α → Dat} {n : Nat} {xs : List α} (h : ∀ x ∈ xs, okS n (f x)) : ∀ d ∈ xs.map f, okS n d := fun d hd => by
  obtain ⟨x, hx, rfl⟩ := List.mem_map.mp hd
  exact h x hx
theorem plAll_map {α : Type} {f : α → Dat} {xs : List α} (h : ∀ x ∈ xs, plD (f x) = true) : plAll (xs.map f) = true := plAll_of fun d hd => by
  obtain ⟨x, hx, rfl⟩ := List.mem_map.mp hd
  exact h x hx
theorem getD_at {xs : List Int} {i : Nat} (h : i < xs.length) : xs[i]? = some (xs.getD i 0) := by
  rw [List.getD_eq_getElem?_getD, List.getElem?_eq_getElem h]
  rfl
def aStar (ea : AEx) (er : AFr) : AFr := fun env P => ea env fun x => sQ x fun xs => er env fun ys => P (xs ++ ys)
def aSz (aa : AFr) : AFr := fun env P => aa env fun ds => ds.length ≤ 100000 ∧ P ds
theorem forA_suf {α : Type} {f : α → Dat} {g : ATg} {b : ASt} {D : AEnds} (W : List α → List Sl → Prop) (hs : ∀ x xs env, W (x :: xs) env → ∀ N : List Sl → Prop, (∀ env', W xs env' → N env') → g (f x) env fun env2 => b { D with nx := N, ct := N, bk := D.nx } env2)
    (hd : ∀ env, W [] env → D.nx env) : ∀ xs env, W xs env → forA g b D (xs.map f) env
  | [], env, h => hd env h
  | x :: xs, env, h => hs x xs env h (forA g b D (xs.map f)) fun env' w => forA_suf W hs hd xs env' w
theorem enumD_map {α : Type} (f : α → Dat) : ∀ (xs : List α) (n : Nat), enumD n (xs.map f) = (xs.zipIdx n).map fun x => .tup [.int (x.2 : Nat), f x.1]
  | [], _ => rfl
  | x :: xs, n => congrArg (_ :: ·) (enumD_map f xs (n + 1))
theorem fn_vac {P : Program} {w : World} {K : PySem.W.Frag} {mg : Str → Option Value} {base : Heap} {CX : CXT} {k : Nat} {f : Addr} {fd : FuncData} {ps : List Str} {ca : Nat → Addr} {asp : ASp} (h : ∀ ds P, ¬ asp ds P) : FnOk P w K mg base CX k f fd ps (toSp K ca asp) :=
  ⟨fun _ _ _ _ ⟨_, _, _, _, _, _, a, _⟩ => (h _ _ a).elim, fun _ _ _ _ _ _ _ _ _ _ _ _ _ ⟨_, _, _, _, _, _, a, _⟩ => (h _ _ a).elim⟩
theorem zipIdx_at {α : Type} {xs : List α} {k i : Nat} {x : α} (h : (xs.zipIdx 0)[k]? = some (x, i)) : xs[k]? = some x ∧ i = k := by
  rw [List.getElem?_zipIdx] at h
  cases e : xs[k]? with
  | none =>
    rw [e] at h
    cases h
  | some y =>
    rw [e] at h
    simp only [Option.map_some, Option.some.injEq, Prod.mk.injEq] at h
    exact ⟨by rw [h.1], by omega⟩
local macro_rules | `(tactic| walk_at "bv") => `(tactic| simp only [upV, upVF, upVT, vwS_d, vwS_u, vwS_o, vw_n, vw_b, vw_i, vw_s, vw_p, vw_l, vw_t, vw_o, vw_d, ftD_i, ftD_s, ftD_b, ftD_n, ftD_t, ftAll_n, ftAll_c, bDget, zPutD, bPn, bPc, bDisp, bMethX, bSeq, kMin2_i, aDget2, bk_dk, bk_ks, bk_dd, bk_st, kDget_s, dg_c, dg_n, kIxS_i, ofS_inj, Sum.inr.injEq, reduceIte, kInt_bl, Option.getD_none, Option.getD_some, zRaise, bCallX, bFldC, zSetF, bMake2, bFrzO, coQ_o, isC_c, upE, upF, upT, bFz, bCel, b2, b2F, b1, b1F, bNil, bCons, bTup, bTest, bNot, bAnd, bOr, bAndV, bOrV, bNotV, bIf, bCall, bCallF, bCall2, bFrz, elB, bLc, bYes, zNext, zSeq, zIf, zAsg, zSetO, zRet, zRetN, zDrop, zPar, zApp, zFz, zAug, zFor, zAppC, zPutC, zPutO, dId, drf_l, drf_t, drf_i, drf_s, drf_b, drf_n, drf_c, drf_o, drc_l, ceQ_c, inQ_i, cQ_l, Sto.put_s, elA, sSeq, sNext, sIf, sAsg, sSetO, sRet, sRetN, sDrop, sPar, sFz, sApp, sAug, sFor, oQ2_o, dQ_d, dQ2_d, dQ2_o, dAt_0, dAt_s, aVar, aPeek, aC, aFz, a2, a2F, a1, a1F, aCons, aNil, aTup, aTest_eq, aNot, aAnd, aOr, bQ_bl, aAndV, aOrV, aNotV, aIf, aChain, kI_i, kI0_i, kEq_i, kEq_s, kEq_b, kFld_o, oQ_some, aCall, aMeth, aMake, iSeq, lQ_lst, tQ_tup, sQ_lst, sQ_tup, iRan, gA, gTu, gNil_n, gCons_c, aLc, wipeA, kLen, kTupOf, kQ_t, kQ_l, iZipA, iEnA, aSlF, aSlT, aoN, aoS, aRevT, aRevL, kMax2_i, kCatS_s, kCatT_t, kCatL_l, kInt_i, kNeg_i, true_and, aYes, iCons, iNil, iDrop, kIsO_o, two_t, two_f, kIx_l, kIx_t, atI_0, atI_1, atI_2, atI_3, Bool.false_eq_true, if_false, if_true, kStr_i, kIsT_non, kIsT_bl, kIsT_int, kIsT_str, kIsT_lst, kIsT_tup, kIsN_non, kIsN_bl, kIsN_int, kIsN_str, kIsN_lst, kIsN_tup, kIsN_obj, kEq_nn, String.reduceEq, decide_true, decide_false, Bool.or_false, Bool.false_or, Bool.true_or, Bool.or_true, Bool.and_true, Bool.true_and, Bool.and_false, Bool.false_and, Bool.not_true, Bool.not_false, reduceCtorEq,   List.map_cons, List.map_nil, List.cons_append, List.nil_append, List.length_cons, List.length_nil, Nat.reduceAdd, Nat.reduceSub, List.replicate_succ, List.replicate_zero, List.set_cons_zero, List.set_cons_succ, List.getElem?_cons_zero, List.getElem?_cons_succ])
local macro_rules | `(tactic| walk_at "bw") => `(tactic| simp only [upV, upVF, upVT, vwS_d, vwS_u, vwS_o, vw_n, vw_b, vw_i, vw_s, vw_p, vw_l, vw_t, vw_o, vw_d, ftD_i, ftD_s, ftD_b, ftD_n, ftD_t, ftAll_n, ftAll_c, bDget, zPutD, bPn, bPc, bDisp, bMethX, bSeq, kMin2_i, aDget2, bk_dk, bk_ks, bk_dd, bk_st, kDget_s, dg_c, dg_n, kIxS_i, ofS_inj, Sum.inr.injEq, reduceIte, kInt_bl, Option.getD_none, Option.getD_some, zRaise, bCallX, bFldC, zSetF, bMake2, bFrzO, coQ_o, isC_c, upE, upF, upT, bFz, bCel, b2, b2F, b1, b1F, bNil, bCons, bTup, bTest, bNot, bAnd, bOr, bAndV, bOrV, bNotV, bIf, bCall, bCallF, bCall2, bFrz, elB, bLc, bYes, zNext, zIf, zAsg, zSetO, zRet, zRetN, zDrop, zPar, zApp, zFz, zAug, zFor, zAppC, zPutC, zPutO, dId, drf_l, drf_t, drf_i, drf_s, drf_b, drf_n, drf_c, drf_o, drc_l, ceQ_c, inQ_i, cQ_l, Sto.put_s, elA, sNext, sIf, sAsg, sSetO, sRet, sRetN, sDrop, sPar, sFz, sApp, sAug, sFor, oQ2_o, dQ_d, dQ2_d, dQ2_o, dAt_0, dAt_s, aVar, aPeek, aC, aFz, a2, a2F, a1, a1F, aCons, aNil, aTup, aTest_eq, aNot, aAnd, aOr, bQ_bl, aAndV, aOrV, aNotV, aIf, aChain, kI_i, kI0_i, kEq_i, kEq_s, kEq_b, kFld_o, oQ_some, aCall, aMeth, aMake, iSeq, lQ_lst, tQ_tup, sQ_lst, sQ_tup, iRan, gA, gTu, gNil_n, gCons_c, aLc, wipeA, kLen, kTupOf, kQ_t, kQ_l, iZipA, iEnA, aSlF, aSlT, aoN, aoS, aRevT, aRevL, kMax2_i, kCatS_s, kCatT_t, kCatL_l, kInt_i, kNeg_i, true_and, aYes, iCons, iNil, iDrop, kIsO_o, two_t, two_f, kIx_l, kIx_t, atI_0, atI_1, atI_2, atI_3, Bool.false_eq_true, if_false, if_true, kStr_i, kIsT_non, kIsT_bl, kIsT_int, kIsT_str, kIsT_lst, kIsT_tup, kIsN_non, kIsN_bl, kIsN_int, kIsN_str, kIsN_lst, kIsN_tup, kIsN_obj, kEq_nn, String.reduceEq, decide_true, decide_false, Bool.or_false, Bool.false_or, Bool.true_or, Bool.or_true, Bool.and_true, Bool.true_and, Bool.and_false, Bool.false_and, Bool.not_true, Bool.not_false, reduceCtorEq,   List.map_cons, List.map_nil, List.cons_append, List.nil_append, List.length_cons, List.length_nil, Nat.reduceAdd, Nat.reduceSub, List.replicate_succ, List.replicate_zero, List.set_cons_zero, List.set_cons_succ, List.getElem?_cons_zero, List.getElem?_cons_succ])
local macro_rules | `(tactic| walk_at "ds") => `(tactic| simp only [kMin2_i, aDget2, bk_dd, bk_st, kDget_s, dg_c, dg_n, kIxS_i, ofS_inj, Sum.inr.injEq, reduceIte, kInt_bl, Option.getD_none, Option.getD_some, elA, sSeq, sNext, sIf, sAsg, sSetO, sRet, sRetN, sDrop, sPar, sFz, sApp, sAug, sFor, oQ2_o, dQ_d, dQ2_d, dQ2_o, dAt_0, dAt_s, aVar, aPeek, aC, aFz, a2, a2F, a1, a1F, aCons, aNil, aTup, aTest_eq, aNot, aAnd, aOr, bQ_bl, aAndV, aOrV, aNotV, aIf, aChain, kI_i, kI0_i, kEq_i, kEq_s, kEq_b, kFld_o, oQ_some, aCall, aMeth, aMake, iSeq, lQ_lst, tQ_tup, sQ_lst, sQ_tup, iRan, gA, gTu, gNil_n, gCons_c, aLc, wipeA, kLen, kTupOf, kQ_t, kQ_l, iZipA, iEnA, aSlF, aSlT, aoN, aoS, aRevT, aRevL, kMax2_i, kCatS_s, kCatT_t, kCatL_l, kInt_i, kNeg_i, true_and, aYes, iCons, iNil, iDrop, kIsO_o, two_t, two_f, kIx_l, kIx_t, atI_0, atI_1, atI_2, atI_3, Bool.false_eq_true, if_false, if_true, kStr_i, kIsT_non, kIsT_bl, kIsT_int, kIsT_str, kIsT_lst, kIsT_tup, kIsN_non, kIsN_bl, kIsN_int, kIsN_str, kIsN_lst, kIsN_tup, kIsN_obj, kEq_nn, String.reduceEq, decide_true, decide_false, Bool.or_false, Bool.false_or, Bool.true_or, Bool.or_true, Bool.and_true, Bool.true_and, Bool.and_false, Bool.false_and, Bool.not_true, Bool.not_false, reduceCtorEq,
  List.map_cons, List.map_nil, List.cons_append, List.nil_append, List.length_cons, List.length_nil, Nat.reduceAdd, Nat.reduceSub, List.replicate_succ, List.replicate_zero, List.set_cons_zero, List.set_cons_succ, List.getElem?_cons_zero, List.getElem?_cons_succ])
local macro_rules | `(tactic| walk_at "wb") => `(tactic| first | walk_at "bw" | skip)
local macro_rules | `(tactic| walk_at "wv") => `(tactic| first | walk_at "bv" | skip)
abbrev s_Kind___init__ : Stmt := inClass (top 17) 0
theorem sc_Kind___init__ : FnScope ["self", "name", "fields", "field", "many"] ["self", "name", "fields"] (defScope s_Kind___init__) := ⟨rfl, rfl, rfl, by decide +kernel, rfl, by decide +kernel, by decide +kernel⟩
abbrev Fld := Str × Int
def fmD (x : Fld) : Dat := .tup [.str x.1, .int x.2]
def kdO (n : Str) (fs : List Fld) : Dat := .obj 3 [.str n, .tup (fs.map fmD)]
section
variable {P : Program} {w : World} {K : PySem.W.Frag} {mg : Str → Option Value} {base : Heap} {ca : Nat → Addr}
def aspKdIK (k : Bool) : ASpI := fun ds P => ∃ (n : Str) (fs : List Fld), ds = [.str n, sqD k (fs.map fmD)] ∧ fs.length ≤ 1000 ∧ P [.str n, .tup (fs.map fmD)]
def aspKdI : ASpI := fun ds P => ∃ k, aspKdIK k ds P
theorem ok_kd_init {f : Addr} {fd : FuncData} (F : Fun K "__init__" "Kind.__init__" s_Kind___init__ f fd) (T3 : KdT K (ca 3)) (B : Blt mg) : FnOk P w K mg base CX0 1 f fd ["self", "name", "fields"] (toSpI K ca 3 aspKdI) := by
  refine F.ok sc_Kind___init__ (fun vs H Q E h => by obtain ⟨k, h⟩ := sp_exI h; exact sp_lenI (n := 2) (fun ds P a => by obtain ⟨_, _, rfl, _⟩ := a; rfl) h) (fun cdv A outer s H vs Q E hr h => ?_)
  obtain ⟨k, h⟩ := sp_exI h
  refine ⟨_, (pss_cons (ps_fld (pv 0) (pv 1) rfl)
      (pss_cons (ps_fld (pv 0) (pe_callTy (ktupF (K := K) rfl) (by rfl) B.tuple bt_tuple (pa_cons (pe_lc (own := [("field", 3), ("many", 4)]) (tt := tYes) rfl sc_Kind___init__.nd (pi_K k (K := K) rfl (pv 2)) (blkOk_by (N := ["self", "name", "fields", "field", "many"]) (sc := defScope s_Kind___init__) (by decide +kernel))
        (fun _ _ _ _ _ => (kgtup (K := K) (n := 2) rfl rfl (pgs_cons (pg_name (i := 3) sc_Kind___init__.nd rfl (.inl rfl)) (pgs_cons (pg_name (i := 4) sc_Kind___init__.nd rfl (.inl rfl)) pgs_nil)))) (fun _ _ _ _ _ => pts_nil)
        (fun _ _ _ _ _ => (pe_tupF (pa_cons (pv 3) (pa_cons (pv 4) pa_nil))))) pa_nil)) rfl) pss_nil)),
    fn_init h (fun po => (i_cons T3.cl T3.n_name (k := 0) rfl (by decide) (by decide) (fun _ => a_var) (i_cons T3.cl T3.n_fields (k := 1) rfl (by decide) (by decide) (fun _ => (a_b1 u_tupOf (a_pk (a_fz (a_lc (vs := [3, 4]) (i_K a_var) (g_tup (g_cons (g_name (by decide)) (g_cons (g_name (by decide)) g_nil tot_name) tot_name)) a_yes (a_tup (a_cons a_var (a_cons a_var a_nil)))))))) i_nil))) (fun ds P a => by obtain ⟨_, _, rfl, _⟩ := a; exact Nat.le_of_ble_eq_true rfl) ?_⟩
  rintro ds P ⟨n, fs, rfl, hl, hp⟩
  walk_at "dd"
  refine kQ_sq ⟨by rw [List.length_map]; omega, ?_⟩
  refine lcA_mapL (g := fmD) (fun x hx Q hQ => hQ) ?_
  exact hp
end
abbrev Kd := Str × List Fld
def kdP (k : Kd) : Dat := kdO k.1 k.2
theorem all_map {α : Type} {xs : List α} {g : α → Bool} {P : Dat → Prop} (h : P (.bl (xs.all g))) : kAll (.lst (xs.map fun x => Dat.bl (g x))) P := ⟨xs.map g, by rw [List.map_map]; rfl, by
  rw [List.all_map]
  exact h⟩
abbrev s__law_commit : Stmt := top 41
theorem sc__law_commit : FnScope ["group", "exponents", "k"] ["group", "exponents"] (defScope s__law_commit) := ⟨rfl, rfl, rfl, by decide +kernel, rfl, by decide +kernel, by decide +kernel⟩
abbrev s__law_kinds : Stmt := top 44
theorem sc__law_kinds : FnScope ["pool", "most", "kinds", "k", "fields", "place"] ["pool", "most"] (defScope s__law_kinds) := ⟨rfl, rfl, rfl, by decide +kernel, rfl, by decide +kernel, by decide +kernel⟩
def kdT (k : Kd) : Dat := .tup [.str k.1, .tup (k.2.map fmD)]
/-- what kinds the law makes -/
structure KsOk (ks : List Kd) : Prop where
  nm : ks.map (·.1) = [("person" : Str)] ∨ ks.map (·.1) = [("person" : Str), "club"]
  fs : ∀ k ∈ ks, k.2.length ≤ 4 ∧ ∀ f ∈ k.2, (f.1 = "a" ∨ f.1 = "b" ∨ f.1 = "c" ∨ f.1 = "d") ∧ 1 ≤ f.2 ∧ f.2 ≤ 16
theorem zip_get {bs es : List Int} (h : es.length ≤ bs.length) : (List.range es.length).map (fun i => prT (bs.getD i 0, es.getD i 0)) = (bs.zip es).map prT := by
  refine List.ext_getElem (by rw [List.length_map, List.length_range, List.length_map, List.length_zip]; omega) fun i h1 h2 => ?_
  rw [List.length_map, List.length_range] at h1
  rw [List.getElem_map, List.getElem_range, List.getElem_map, List.getElem_zip, List.getD_eq_getElem?_getD, List.getD_eq_getElem?_getD, List.getElem?_eq_getElem (show i < bs.length by omega), List.getElem?_eq_getElem h1]
  rfl
theorem abcd_at : ∀ i : Nat, i < 4 → ∃ c, atI (Str.ofString "abcd").cps.toList (0 + (i : Int)) = some c ∧ ((⟨#[c]⟩ : Str) = "a" ∨ (⟨#[c]⟩ : Str) = "b" ∨ (⟨#[c]⟩ : Str) = "c" ∨ (⟨#[c]⟩ : Str) = "d")
  | 0, _ => ⟨97, by decide +kernel, .inl (by decide +kernel)⟩
  | 1, _ => ⟨98, by decide +kernel, .inr (.inl (by decide +kernel))⟩
  | 2, _ => ⟨99, by decide +kernel, .inr (.inr (.inl (by decide +kernel)))⟩
  | 3, _ => ⟨100, by decide +kernel, .inr (.inr (.inr (by decide +kernel)))⟩
  | i + 4, h => absurd h (by omega)
def FdOk (f : Fld) : Prop := (f.1 = "a" ∨ f.1 = "b" ∨ f.1 = "c" ∨ f.1 = "d") ∧ 1 ≤ f.2 ∧ f.2 ≤ 16
theorem fds_of {α : Type} : ∀ {xs : List α} {ys : List Dat}, Paired (fun _ y => ∃ f : Fld, y = fmD f ∧ FdOk f) xs ys → ∃ fs : List Fld, ys = fs.map fmD ∧ fs.length = xs.length ∧ ∀ f ∈ fs, FdOk f
  | _, _, .nil => ⟨[], rfl, rfl, fun _ h => nomatch h⟩
  | _, _, .cons r t => by
    obtain ⟨f, rfl, hf⟩ := r
    obtain ⟨fs, rfl, hl, h⟩ := fds_of t
    refine ⟨f :: fs, rfl, congrArg (· + 1) hl, fun g hg => ?_⟩
    rcases List.mem_cons.mp hg with rfl | hg
    · exact hf
    · exact h g hg
section
variable {P : Program} {w : World} {K : PySem.W.Frag} {mg : Str → Option Value} {base : Heap} {ca : Nat → Addr}
def aspLCommitK (k : Bool) : ASp := fun ds P => ∃ (p q : Int) (bs es : List Int), ds = [lgD p q bs, sqD k (es.map .int)] ∧ 0 < q ∧ q < 2147483648 ∧ 1 < p ∧ p < 2147483648 ∧ es.length ≤ bs.length ∧ es.length ≤ 1000 ∧ P (.int (prZ p q (bs.zip es)))
def aspLCommit : ASp := fun ds P => ∃ k, aspLCommitK k ds P
theorem ok_law_commit {f : Addr} {fd : FuncData} (F : Fun K "_law_commit" "_law_commit" s__law_commit f fd) (B : Blt mg) (C__law_product : C8.Cal P w K mg base 3 "_law_product" (toSp K ca aspLProduct) []) : FnOk P w K mg base CX0 4 f fd ["group", "exponents"] (toSp K ca aspLCommit) := by
  refine F.ok sc__law_commit (fun vs H Q E h => by obtain ⟨k, h⟩ := sp_ex h; exact sp_len (n := 2) (fun ds P a => by obtain ⟨_, _, _, _, rfl, _⟩ := a; rfl) h) (fun cdv A outer s H vs Q E hr h => ?_)
  obtain ⟨k, h⟩ := sp_ex h
  refine ⟨_, (pss_one (ps_ret (C8.pe_c C__law_product hr (by omega) rfl (pa_cons (pv 0) (pa_cons (pe_lc (own := [("k", 2)]) (g := gName 2) (tt := tYes) rfl sc__law_commit.nd (pi_range1 rfl B.range (pa_cons (pe_callB (klen (K := K) rfl) (by rfl) B.len bt_len (pa_cons (pv 1) pa_nil)) pa_nil)) (blkOk_by (N := ["group", "exponents", "k"]) (sc := defScope s__law_commit) (by decide +kernel))
        (fun _ _ _ _ _ => (pg_name (i := 2) sc__law_commit.nd rfl (.inl rfl))) (fun _ _ _ _ _ => pts_nil)
        (fun _ _ _ _ _ => (pe_tupF (pa_cons (pe_ix (kixs (K := K) rfl) (pe_ix (kixs (K := K) rfl) (pv 0) pe_int (fun _ _ => rfl)) (pv 2) (fun _ _ => rfl)) (pa_cons (pe_ix (kixs (K := K) rfl) (pv 1) (pv 2) (fun _ _ => rfl)) pa_nil))))) pa_nil))))),
    fn_run h (fun po => (s_ret fun _ => (a_call (a_cons a_var (a_cons (a_fz (a_lc (vs := [2]) (i_ran1 (a_cons (a_b1 u_len (a_pk a_var)) a_nil)) (g_name (by decide)) a_yes (a_tup (a_cons (a_op pst_pk rok_ix (a_pk (a_op pst_pk rok_ix (a_pk a_var) a_int)) a_var) (a_cons (a_op pst_pk rok_ix (a_pk a_var) a_var) a_nil))))) a_nil))))) (fun ds P a => by obtain ⟨_, _, _, _, rfl, _⟩ := a; exact Nat.le_of_ble_eq_true rfl) ?_⟩
  rintro ds P ⟨p, q, bs, es, rfl, q0, q1, p0, p1, hl, hl2, hp⟩
  unfold lgD
  walk_at "ds"
  refine sQ_sq ?_
  rw [List.length_map]
  refine ⟨by omega, by omega, by rw [List.length_map, List.length_range]; omega, ?_⟩
  refine lcA_mapL (f := fun (i : Nat) => Dat.int (0 + (i : Int))) (g := fun i => prT (bs.getD i 0, es.getD i 0)) (fun i hi Q hQ => ?_) ?_
  · have hi' := List.mem_range.mp hi
    walk_at "ds"
    refine oa_at (Int.zero_add _) (getD_at (show i < bs.length by omega)) ?_
    refine ix_sq (Int.zero_add _) (getD_at (show i < es.length by omega)) ?_
    exact hQ
  · rw [show ((es.length : Nat) : Int).toNat = es.length by omega, zip_get hl]
    exact ⟨p, q, bs, bs.zip es, rfl, q0, q1, p0, p1, hp⟩
end
local macro_rules | `(tactic| walk_at "dw1") => `(tactic| simp only [aSz, aDc, elD, aDIn, aStar, bk_ks, Option.map_some, Option.map_none, Option.isSome_some, Option.isSome_none, kMin2_i, aDget2, bk_dd, bk_st, kDget_s, dg_c, dg_n, kIxS_i, ofS_inj, Sum.inr.injEq, reduceIte, kInt_bl, Option.getD_none, Option.getD_some, elA, sNext, sIf, sAsg, sSetO, sRet, sRetN, sDrop, sPar, sFz, sApp, sAug, sFor, oQ2_o, dQ_d, dQ2_d, dQ2_o, dAt_0, dAt_s, aVar, aPeek, aC, aFz, a2, a2F, a1, a1F, aCons, aNil, aTup, aTest_eq, aNot, aAnd, aOr, bQ_bl, aAndV, aOrV, aNotV, aIf, aChain, kI_i, kI0_i, kEq_i, kEq_s, kEq_b, kFld_o, oQ_some, aCall, aMeth, aMake, iSeq, lQ_lst, tQ_tup, sQ_lst, sQ_tup, iRan, gA, gTu, gNil_n, gCons_c, aLc, wipeA, kLen, kTupOf, kQ_t, kQ_l, iZipA, iEnA, aSlF, aSlT, aoN, aoS, aRevT, aRevL, kMax2_i, kCatS_s, kCatT_t, kCatL_l, kInt_i, kNeg_i, true_and, aYes, iCons, iNil, iDrop, kIsO_o, two_t, two_f, kIx_l, kIx_t, atI_0, atI_1, atI_2, atI_3, Bool.false_eq_true, if_false, if_true, kStr_i, kIsT_non, kIsT_bl, kIsT_int, kIsT_str, kIsT_lst, kIsT_tup, kIsN_non, kIsN_bl, kIsN_int, kIsN_str, kIsN_lst, kIsN_tup, kIsN_obj, kEq_nn, String.reduceEq, decide_true, decide_false, Bool.or_false, Bool.false_or, Bool.true_or, Bool.or_true, Bool.and_true, Bool.true_and, Bool.and_false, Bool.false_and, Bool.not_true, Bool.not_false, reduceCtorEq,
  List.map_cons, List.map_nil, List.cons_append, List.nil_append, List.length_cons, List.length_nil, Nat.reduceAdd, Nat.reduceSub, List.replicate_succ, List.replicate_zero, List.set_cons_zero, List.set_cons_succ, List.getElem?_cons_zero, List.getElem?_cons_succ])
local macro_rules | `(tactic| walk_at "dw") => `(tactic| first | walk_at "dw1" | skip)
local macro_rules | `(tactic| walk_at "wq1") => `(tactic| simp only [bMeth2, bPop, bRan, aSz, aDc, elD, aDIn, aStar, bk_ks, Option.map_some, Option.map_none, Option.isSome_some, Option.isSome_none, upV, upVF, upVT, vwS_d, vwS_u, vwS_o, vw_n, vw_b, vw_i, vw_s, vw_p, vw_l, vw_t, vw_o, vw_d, ftD_i, ftD_s, ftD_b, ftD_n, ftD_t, ftAll_n, ftAll_c, bDget, zPutD, bPn, bPc, bDisp, bMethX, bSeq, kMin2_i, aDget2, bk_dk, bk_ks, bk_dd, bk_st, kDget_s, dg_c, dg_n, kIxS_i, ofS_inj, Sum.inr.injEq, reduceIte, kInt_bl, Option.getD_none, Option.getD_some, zRaise, bCallX, bFldC, zSetF, bMake2, bFrzO, coQ_o, isC_c, upE, upF, upT, bFz, bCel, b2, b2F, b1, b1F, bNil, bCons, bTup, bTest, bNot, bAnd, bOr, bAndV, bOrV, bNotV, bIf, bCall, bCallF, bCall2, bFrz, elB, bLc, bYes, zNext, zIf, zAsg, zSetO, zRet, zRetN, zDrop, zPar, zApp, zFz, zAug, zFor, zAppC, zPutC, zPutO, dId, drf_l, drf_t, drf_i, drf_s, drf_b, drf_n, drf_c, drf_o, drc_l, ceQ_c, inQ_i, cQ_l, Sto.put_s, elA, sNext, sIf, sAsg, sSetO, sRet, sRetN, sDrop, sPar, sFz, sApp, sAug, sFor, oQ2_o, dQ_d, dQ2_d, dQ2_o, dAt_0, dAt_s, aVar, aPeek, aC, aFz, a2, a2F, a1, a1F, aCons, aNil, aTup, aTest_eq, aNot, aAnd, aOr, bQ_bl, aAndV, aOrV, aNotV, aIf, aChain, kI_i, kI0_i, kEq_i, kEq_s, kEq_b, kFld_o, oQ_some, aCall, aMeth, aMake, iSeq, lQ_lst, tQ_tup, sQ_lst, sQ_tup, iRan, gA, gTu, gNil_n, gCons_c, aLc, wipeA, kLen, kTupOf, kQ_t, kQ_l, iZipA, iEnA, aSlF, aSlT, aoN, aoS, aRevT, aRevL, kMax2_i, kCatS_s, kCatT_t, kCatL_l, kInt_i, kNeg_i, true_and, aYes, iCons, iNil, iDrop, kIsO_o, two_t, two_f, kIx_l, kIx_t, atI_0, atI_1, atI_2, atI_3, Bool.false_eq_true, if_false, if_true, kStr_i, kIsT_non, kIsT_bl, kIsT_int, kIsT_str, kIsT_lst, kIsT_tup, kIsN_non, kIsN_bl, kIsN_int, kIsN_str, kIsN_lst, kIsN_tup, kIsN_obj, kEq_nn, String.reduceEq, decide_true, decide_false, Bool.or_false, Bool.false_or, Bool.true_or, Bool.or_true, Bool.and_true, Bool.true_and, Bool.and_false, Bool.false_and, Bool.not_true, Bool.not_false, reduceCtorEq,   List.map_cons, List.map_nil, List.cons_append, List.nil_append, List.length_cons, List.length_nil, Nat.reduceAdd, Nat.reduceSub, List.replicate_succ, List.replicate_zero, List.set_cons_zero, List.set_cons_succ, List.getElem?_cons_zero, List.getElem?_cons_succ])
local macro_rules | `(tactic| walk_at "wq") => `(tactic| first | walk_at "wq1" | skip)
abbrev s__law_rows : Stmt := top 46
theorem sc__law_rows : FnScope ["pool", "scene", "fields", "issuers", "group", "numbers", "name", "size", "first", "second", "count", "places", "rows", "place", "opening", "side", "picks", "found"] ["pool", "scene", "fields", "issuers"] (defScope s__law_rows) := ⟨rfl, rfl, rfl, by decide +kernel, rfl, by decide +kernel, by decide +kernel⟩
/-- a holder's pick -/
structure Pk3 where
  row : Int
  rd : Int
  vs : List Int
def pk3D (x : Pk3) : Dat := .tup [.int x.row, .int x.rd, .tup (x.vs.map .int)]
def rw3D (x : Str × Int × Int) : Dat := .tup [.str x.1, .int x.2.1, .int x.2.2]
/-- a scene, while it is made: the dict's cell, and those of its lists -/
structure ScA where
  d : Addr
  ca : Addr
  co : Addr
  ro : Addr
  pi : Addr
  p0 : Addr
  p1 : Addr
def scK (a : ScA) (p q : Int) (bs : List Int) (ks : List Kd) (s0 s1 : Int) : List (Key × Dat) := [(.inr "group", lgD p q bs), (.inr "kinds", .lst (ks.map kdT)), (.inr "cards", .cell a.ca), (.inr "conditions", .cell a.co), (.inr "rows", .cell a.ro), (.inr "picks", .cell a.pi), (.inr "secrets", .lst [.int s0, .int s1])]
section
variable {a : ScA} {p q s0 s1 : Int} {bs : List Int} {ks : List Kd}
theorem sk_group : dgetD (scK a p q bs ks s0 s1) (.inr "group") = some (lgD p q bs) := by unfold scK; simp only [dg_c, ofS_inj, Sum.inr.injEq, String.reduceEq, reduceIte]
theorem sk_rows : dgetD (scK a p q bs ks s0 s1) (.inr "rows") = some (.cell a.ro) := by unfold scK; simp only [dg_c, ofS_inj, Sum.inr.injEq, String.reduceEq, reduceIte]
theorem sk_picks : dgetD (scK a p q bs ks s0 s1) (.inr "picks") = some (.cell a.pi) := by unfold scK; simp only [dg_c, ofS_inj, Sum.inr.injEq, String.reduceEq, reduceIte]
theorem sk_secrets {n : Nat} {M : Sto} : dgetD ((scK a p q bs ks s0 s1).map fun x => (x.1, vwD n M x.2)) (.inr "secrets") = some (.lst [.int s0, .int s1]) := by unfold scK; simp only [List.map_cons, List.map_nil, dg_c, ofS_inj, Sum.inr.injEq, String.reduceEq, reduceIte, vw_l]
end
/-- a holder's pick, in a card of these fields -/
structure PkOk (q : Int) (fs : List Fld) (k : Pk3) : Prop where
  ln : k.vs.length = fs.length
  rg : Paired (fun (f : Fld) v => 0 ≤ v ∧ v < f.2) fs k.vs
  rd : 0 ≤ k.rd ∧ k.rd < q
structure RwsOk (p q : Int) (bs : List Int) (nms : List Str) (s0 s1 : Int) (rws : List (Str × Int × Int)) (k0 k1 : Pk3) : Prop where
  ln : 2 ≤ rws.length ∧ rws.length ≤ 4
  ix : ∀ (i : Nat) r, rws[i]? = some r → r.2.1 = i ∧ r.1 ∈ nms
  a0 : ∃ (i : Nat) (r : Str × Int × Int), k0.row = i ∧ rws[i]? = some r ∧ r.2.2 = prZ p q (bs.zip (k0.rd :: s0 :: k0.vs))
  a1 : ∃ (i : Nat) (r : Str × Int × Int), k1.row = i ∧ rws[i]? = some r ∧ r.2.2 = prZ p q (bs.zip (k1.rd :: s1 :: k1.vs))
  ne : k0.row ≠ k1.row
theorem prd_snoc {α β : Type} {R : α → β → Prop} {a : α} {b : β} (h : R a b) : ∀ {xs : List α} {ys : List β}, Paired R xs ys → Paired R (xs ++ [a]) (ys ++ [b])
  | _, _, .nil => .cons h .nil
  | _, _, .cons r t => .cons r (prd_snoc h t)
theorem prd_len {α β : Type} {R : α → β → Prop} : ∀ {xs : List α} {ys : List β}, Paired R xs ys → ys.length = xs.length
  | _, _, .nil => rfl
  | _, _, .cons _ t => congrArg (· + 1) (prd_len t)
section
variable {P : Program} {w : World} {K : PySem.W.Frag} {mg : Str → Option Value} {base : Heap} {ca : Nat → Addr}
def bspLRows : BSp := fun ds M X P => ∃ (a : ScA) (p q s0 s1 : Int) (bs : List Int) (ks : List Kd) (fs : List Fld) (nms : List Str) (rows : List Dat) (pk0 pk1 : List Pk3), ds = [.pool, .cell a.d, .tup (fs.map fmD), .tup (nms.map .str)] ∧
  (M a.d = some (.dK (scK a p q bs ks s0 s1)) ∧ M a.ro = some (.lst rows) ∧ M a.pi = some (.lst [.cell a.p0, .cell a.p1]) ∧ M a.p0 = some (.lst (pk0.map pk3D)) ∧ M a.p1 = some (.lst (pk1.map pk3D)) ∧ a.ro ≠ a.p0 ∧ a.ro ≠ a.p1 ∧ a.p0 ≠ a.p1 ∧ a.pi ≠ a.p0 ∧ a.pi ≠ a.p1) ∧
  (GOk p q bs ∧ 6 ≤ bs.length ∧ q < 100000 ∧ (0 ≤ s0 ∧ s0 < q) ∧ (0 ≤ s1 ∧ s1 < q) ∧ rows.length ≤ 100 ∧ pk0.length ≤ 100 ∧ pk1.length ≤ 100) ∧ (fs.length ≤ 4 ∧ (∀ f ∈ fs, 1 ≤ f.2 ∧ f.2 ≤ 16) ∧ 1 ≤ nms.length ∧ nms.length ≤ 3) ∧
  ∀ (rws : List (Str × Int × Int)) (k0 k1 : Pk3) (M' : Sto), PkOk q fs k0 → PkOk q fs k1 → RwsOk p q bs nms s0 s1 rws k0 k1 → (∀ y, y ≠ a.ro → y ≠ a.p0 → y ≠ a.p1 → M y ≠ none → M' y = M y) → M' a.ro = some (.lst (rows ++ [.tup (rws.map rw3D)])) → M' a.p0 = some (.lst ((pk0 ++ [k0]).map pk3D)) → M' a.p1 = some (.lst ((pk1 ++ [k1]).map pk3D)) → P .non M'
theorem ok_law_rows {f : Addr} {fd : FuncData} (F : Fun K "_law_rows" "_law_rows" s__law_rows f fd) (B : Blt mg) (C__law_draw : C8.Cal P w K mg base 1 "_law_draw" (toSp K ca aspDraw) []) (C__law_numbers : C8.Cal P w K mg base 2 "_law_numbers" (toSp K ca aspLNumbers) []) (C__law_commit : C8.Cal P w K mg base 4 "_law_commit" (toSp K ca aspLCommit) []) : FnOk P w K mg base CX0 5 f fd ["pool", "scene", "fields", "issuers"] (toSp2 K ca bspLRows) := by
  refine F.ok sc__law_rows (fun vs H Q E h => sp_len2 (n := 4) (fun ds M X P a => by obtain ⟨_, _, _, _, _, _, _, _, _, _, _, _, rfl, _⟩ := a; rfl) h) (fun cdv A outer s H vs Q E hr h => ⟨_, (pss_cons (ps_set (i := 4) sc__law_rows.nd rfl (.inl rfl) (pe_dget (hu_of hr) (pv 1) pe_str (fun _ _ => rfl)))
      (pss_cons (ps_set (i := 5) sc__law_rows.nd rfl (.inl rfl) (pe_lst (pa_cons (pe_lst pa_nil) (pa_cons (pe_lst pa_nil) pa_nil))))
      (pss_cons (ps_for PassesOwn.never rfl (kpit (K := K) rfl (pv 2)) (kgtup (K := K) (n := 2) rfl rfl (pgs_cons (pg_name (i := 6) sc__law_rows.nd rfl (.inl rfl)) (pgs_cons (pg_name (i := 7) sc__law_rows.nd rfl (.inl rfl)) pgs_nil)))
      (pss_cons (ps_set (i := 8) sc__law_rows.nd rfl (.inl rfl) (C8.pe_c C__law_draw hr (by omega) rfl (pa_cons (pv 0) (pa_cons (pv 7) pa_nil))))
      (pss_cons (ps_set (i := 9) sc__law_rows.nd rfl (.inl rfl) (pv 8))
      (C8.pss_cut (ps_if (pt_cmpR op_eq (C8.pe_c C__law_draw hr (by omega) rfl (pa_cons (pv 0) (pa_cons pe_int pa_nil))) pe_int (nomark _)) (pss_one (ps_set (i := 9) sc__law_rows.nd rfl (.inl rfl) (C8.pe_c C__law_draw hr (by omega) rfl (pa_cons (pv 0) (pa_cons (pv 7) pa_nil))))) pss_nil)
      (pss_cons (ps_expr (pe_bm PySem.F.plainAttrs_list PySem.F.slot_list_append PySem.F.type_list_append mt_append (pe_ix (kixs (K := K) rfl) (pv 5) pe_int (fun _ _ => rfl)) (pa_cons (pv 8) pa_nil)))
      (pss_one (ps_expr (pe_bm PySem.F.plainAttrs_list PySem.F.slot_list_append PySem.F.type_list_append mt_append (pe_ix (kixs (K := K) rfl) (pv 5) pe_int (fun _ _ => rfl)) (pa_cons (pv 9) pa_nil)))))))))
      (pss_cons (ps_set (i := 10) sc__law_rows.nd rfl (.inl rfl) (pe_op op_add pe_int (C8.pe_c C__law_draw hr (by omega) rfl (pa_cons (pv 0) (pa_cons pe_int pa_nil)))))
      (pss_cons (ps_set (i := 11) sc__law_rows.nd rfl (.inl rfl) (pe_lst (pa_cons (C8.pe_c C__law_draw hr (by omega) rfl (pa_cons (pv 0) (pa_cons (pv 10) pa_nil))) (pa_cons (C8.pe_c C__law_draw hr (by omega) rfl (pa_cons (pv 0) (pa_cons (pv 10) pa_nil))) pa_nil))))
      (C8.pss_cut (ps_if (pt_cmpR op_eq (pe_ix (kixs (K := K) rfl) (pv 11) pe_int (fun _ _ => rfl)) (pe_ix (kixs (K := K) rfl) (pv 11) pe_int (fun _ _ => rfl)) (nomark _)) (pss_one (ps_asg (pe_op op_mod (pe_callTy call_int1 (by rfl) B.int bt_int (pa_cons (pe_op op_add (pe_ix (kixs (K := K) rfl) (pv 11) pe_int (fun _ _ => rfl)) pe_int) pa_nil)) (pv 10)) (pg_sub (pv 11) pe_int set_list))) pss_nil)
      (pss_cons (ps_set (i := 12) sc__law_rows.nd rfl (.inl rfl) (pe_lst pa_nil))
      (pss_cons (ps_for PassesOwn.never rfl (pi_range1 rfl B.range (pa_cons (pv 10) pa_nil)) (pg_name (i := 13) sc__law_rows.nd rfl (.inl rfl))
      (pss_cons (ps_set (i := 14) sc__law_rows.nd rfl (.inl rfl) (pe_op op_cat (C8.pe_c C__law_numbers hr (by omega) rfl (pa_cons (pv 0) (pa_cons (pv 4) (pa_cons pe_int pa_nil)))) (pe_lc (own := [("name", 6), ("size", 7)]) (tt := tYes) rfl sc__law_rows.nd (kpit (K := K) rfl (pv 2)) (blkOk_by (N := ["pool", "scene", "fields", "issuers", "group", "numbers", "name", "size", "first", "second", "count", "places", "rows", "place", "opening", "side", "picks", "found"]) (sc := defScope s__law_rows) (by decide +kernel))
        (fun _ _ _ _ _ => (kgtup (K := K) (n := 2) rfl rfl (pgs_cons (pg_name (i := 6) sc__law_rows.nd rfl (.inl rfl)) (pgs_cons (pg_name (i := 7) sc__law_rows.nd rfl (.inl rfl)) pgs_nil)))) (fun _ _ _ _ _ => pts_nil)
        (fun _ _ _ _ _ => (C8.pe_c C__law_draw hr (by omega) rfl (pa_cons (pv 0) (pa_cons (pv 7) pa_nil)))))))
      (pss_cons (ps_for PassesOwn.never rfl (pi_range1 rfl B.range (pa_cons pe_int pa_nil)) (pg_name (i := 15) sc__law_rows.nd rfl (.inl rfl))
      (pss_one (ps_if (pt_cmpR op_eq (pe_ix (kixs (K := K) rfl) (pv 11) (pv 15) (fun _ _ => rfl)) (pv 13) (nomark _)) (pss_cons (ps_set (i := 14) sc__law_rows.nd rfl (.inl rfl) (pe_op op_cat (pe_lst (pa_cons (pe_ix (kixs (K := K) rfl) (pv 14) pe_int (fun _ _ => rfl)) (pa_cons (pe_ix (kixs (K := K) rfl) (pe_dget (hu_of hr) (pv 1) pe_str (fun _ _ => rfl)) (pv 15) (fun _ _ => rfl)) pa_nil))) (pe_ix (kixs (K := K) rfl) (pv 5) (pv 15) (fun _ _ => rfl))))
      (pss_cons (ps_set (i := 16) sc__law_rows.nd rfl (.inl rfl) (pe_ix (kixs (K := K) rfl) (pe_dget (hu_of hr) (pv 1) pe_str (fun _ _ => rfl)) (pv 15) (fun _ _ => rfl)))
      (pss_one (ps_expr (pe_bm PySem.F.plainAttrs_list PySem.F.slot_list_append PySem.F.type_list_append mt_append (pv 16) (pa_cons (pe_tupF (pa_cons (pv 13) (pa_cons (pe_ix (kixs (K := K) rfl) (pv 14) pe_int (fun _ _ => rfl)) (pa_cons (pe_callTy (ktupF (K := K) rfl) (by rfl) B.tuple bt_tuple (pa_cons (pe_ix (kixs (K := K) rfl) (pv 5) (pv 15) (fun _ _ => rfl)) pa_nil)) pa_nil)))) pa_nil)))))) pss_nil)))
      (pss_one (ps_expr (pe_bm PySem.F.plainAttrs_list PySem.F.slot_list_append PySem.F.type_list_append mt_append (pv 12) (pa_cons (pe_tupF (pa_cons (pe_ix (kixs (K := K) rfl) (pv 3) (pe_op op_fdiv (pe_op op_mul (pv 13) (pe_callB (klen (K := K) rfl) (by rfl) B.len bt_len (pa_cons (pv 3) pa_nil))) (pv 10)) (fun _ _ => rfl)) (pa_cons (pv 13) (pa_cons (C8.pe_c C__law_commit hr (by omega) rfl (pa_cons (pv 4) (pa_cons (pv 14) pa_nil))) pa_nil)))) pa_nil)))))))
      (pss_cons (ps_set (i := 17) sc__law_rows.nd rfl (.inl rfl) (pe_dget (hu_of hr) (pv 1) pe_str (fun _ _ => rfl)))
      (pss_one (ps_expr (pe_bm PySem.F.plainAttrs_list PySem.F.slot_list_append PySem.F.type_list_append mt_append (pv 17) (pa_cons (pe_callTy (ktupF (K := K) rfl) (by rfl) B.tuple bt_tuple (pa_cons (pv 12) pa_nil)) pa_nil))))))))))))),
    fn_run2 h (fun po => (z_seq (z_set fun _ => (b_dget (b_up fun _ => a_var) (b_up fun _ => a_str)))
      (z_seq (z_set fun _ => (b_cel (b_lst (b_cons (b_cel (b_upF fun _ => (a_lst a_nil))) (b_cons (b_cel (b_upF fun _ => (a_lst a_nil))) b_nil)))))
      (z_seq (z_for (vs := [6, 7]) (fun _ => (b_upI fun _ => (i_tup a_var))) (fun _ => (g_tup (g_cons (g_name (by decide)) (g_cons (g_name (by decide)) g_nil tot_name) tot_name)))
      (z_seq (z_set fun _ => (b_up fun _ => (a_call (a_cons a_var (a_cons a_var a_nil)))))
      (z_seq (z_set fun _ => (b_up fun _ => a_var))
      (z_cut (z_if (fun _ => (b_upT fun _ => (a_test (a_op pst_rv rok_eq (a_call (a_cons a_var (a_cons a_int a_nil))) a_int)))) (z_set fun _ => (b_up fun _ => (a_call (a_cons a_var (a_cons a_var a_nil))))) z_next)
      (z_seq (z_appC (fun _ => (b_op pst_pk2 cv_pk cv_rv rok_ix (b_pk (b_up fun _ => a_var)) (b_up fun _ => a_int))) (fun _ => (b_up fun _ => a_var)))
      (z_appC (fun _ => (b_op pst_pk2 cv_pk cv_rv rok_ix (b_pk (b_up fun _ => a_var)) (b_up fun _ => a_int))) (fun _ => (b_up fun _ => a_var))))))))
      (z_seq (z_set fun _ => (b_up fun _ => (a_op pst_rv rok_I0 a_int (a_call (a_cons a_var (a_cons a_int a_nil))))))
      (z_seq (z_setO fun _ => (b_upF fun _ => (a_lst (a_cons (a_call (a_cons a_var (a_cons a_var a_nil))) (a_cons (a_call (a_cons a_var (a_cons a_var a_nil))) a_nil)))))
      (z_cut (z_if (fun _ => (b_upT fun _ => (a_test (a_op pst_rv rok_eq (a_op pst_pk rok_ix a_peek a_int) (a_op pst_pk rok_ix a_peek a_int))))) (z_putO (s := 11) (fun _ => (b_up fun _ => (a_op pst_rv rok_I (a_b1 u_int (a_op pst_rv rok_I0 (a_op pst_pk rok_ix a_peek a_int) a_int)) a_var))) (fun _ => (b_up fun _ => a_int))) z_next)
      (z_seq (z_setO fun _ => (b_upF fun _ => (a_lst a_nil)))
      (z_seq (z_for (vs := [13]) (fun _ => (b_upI fun _ => (i_ran1 (a_cons a_var a_nil)))) (fun _ => (g_name (by decide)))
      (z_seq (z_set fun _ => (b_up fun _ => (a_fz (a_opF pst_pk rok_catL (a_pk (a_call (a_cons a_var (a_cons a_var (a_cons a_int a_nil))))) (a_pk (a_fz (a_lc (vs := [6, 7]) (i_tup a_var) (g_tup (g_cons (g_name (by decide)) (g_cons (g_name (by decide)) g_nil tot_name) tot_name)) a_yes (a_call (a_cons a_var (a_cons a_var a_nil))))))))))
      (z_seq (z_for (vs := [15]) (fun _ => (b_upI fun _ => (i_ran1 (a_cons a_int a_nil)))) (fun _ => (g_name (by decide)))
      (z_if (fun _ => (b_upT fun _ => (a_test (a_op pst_rv rok_eq (a_op pst_pk rok_ix a_peek a_var) a_var)))) (z_seq (z_set fun _ => (b_fz (b_upVF 3 fun _ => (a_opF pst_pk rok_catL (a_pk (a_fz (a_lst (a_cons (a_op pst_pk rok_ix (a_pk a_var) a_int) (a_cons (a_op pst_pk rok_ix (a_pk (a_dget a_var a_str)) a_var) a_nil))))) (a_pk (a_op pst_pk rok_ix (a_pk a_var) a_var))))))
      (z_seq (z_set fun _ => (b_op pst_pk2 cv_pk cv_rv rok_ix (b_pk (b_dget (b_up fun _ => a_var) (b_up fun _ => a_str))) (b_up fun _ => a_var)))
      (z_appC (fun _ => (b_up fun _ => a_var)) (fun _ => (b_upV 3 fun _ => (a_tup (a_cons a_var (a_cons (a_op pst_pk rok_ix (a_pk a_var) a_int) (a_cons (a_b1 u_tupOf (a_pk (a_op pst_pk rok_ix (a_pk a_var) a_var))) a_nil))))))))) z_next))
      (z_app fun _ => (b_up fun _ => (a_tup (a_cons (a_op pst_pk rok_ix (a_pk a_var) (a_op pst_rv rok_I (a_op pst_rv rok_I a_var (a_b1 u_len (a_pk a_var))) a_var)) (a_cons a_var (a_cons (a_call (a_cons a_var (a_cons a_var a_nil))) a_nil)))))))))
      (z_seq (z_set fun _ => (b_dget (b_up fun _ => a_var) (b_up fun _ => a_str)))
      (z_appC (fun _ => (b_up fun _ => a_var)) (fun _ => (b_up fun _ => (a_b1 u_tupOf a_peek)))))))))))))) (fun ds M X P a => by obtain ⟨_, _, _, _, _, _, _, _, _, _, _, _, rfl, _⟩ := a; exact Nat.le_of_ble_eq_true rfl) ?_⟩)
  rintro ds M X P ⟨a, p, q, s0, s1, bs, ks, fs, nms, rows, pk0, pk1, rfl, ⟨hd, hro, hpi, hp0, hp1, d1, d2, d3, d4, d5⟩, ⟨gk, l6, qm, hs0, hs1, lr, lp0, lp1⟩, ⟨lf, hf, ln1, ln3⟩, hp⟩
  have p1 := gk.p0
  have pm := gk.pm
  have lm := gk.lm
  have qp : 2 ≤ q := gk.qp.1
  refine zseqG fun N hN => ?_
  walk_at "wq"
  rw [hd]
  walk_at "wq"
  rw [sk_group]
  walk_at "wq"
  subst hN
  refine zseqG fun N hN => ?_
  walk_at "wq"
  intro n0 hn0 n1 hn1
  walk_at "wq"
  intro nb hnb
  walk_at "wq"
  have nn : ∀ {y z : Addr} {c : Ce}, M y = some c → M z = none → y ≠ z := fun h1 h2 e => by
    rw [e, h2] at h1
    cases h1
  have n01 : n0 ≠ n1 := fun e => by
    rw [← e, Sto.put_s] at hn1
    cases hn1
  have hn1' : M n1 = none := by
    rw [Sto.put_n (Ne.symm n01)] at hn1
    exact hn1
  have n0b : n0 ≠ nb := fun e => by
    rw [← e, Sto.put_n n01, Sto.put_s] at hnb
    cases hnb
  have n1b : n1 ≠ nb := fun e => by
    rw [← e, Sto.put_s] at hnb
    cases hnb
  have hnb' : M nb = none := by
    rw [Sto.put_n (Ne.symm n1b), Sto.put_n (Ne.symm n0b)] at hnb
    exact hnb
  have hSt : ∃ W : List Fld → List Sl → Sto → Prop, ∀ xs env M2, W xs env M2 ↔ ∃ (dn : List Fld) (v0 v1 : List Int) (t6 t7 t8 t9 : Sl), env = [Sl.d .pool, Sl.d (.cell a.d), Sl.d (.tup (fs.map fmD)), Sl.d (.tup (nms.map .str)), Sl.d (lgD p q bs), Sl.d (.cell nb), t6, t7, t8, t9, Sl.u, Sl.u, Sl.u, Sl.u, Sl.u, Sl.u, Sl.u, Sl.u] ∧ dn ++ xs = fs ∧ Paired (fun (f : Fld) v => 0 ≤ v ∧ v < f.2) dn v0 ∧ Paired (fun (f : Fld) v => 0 ≤ v ∧ v < f.2) dn v1 ∧ M2 n0 = some (.lst (v0.map .int)) ∧ M2 n1 = some (.lst (v1.map .int)) ∧ M2 nb = some (.lst [.cell n0, .cell n1]) ∧ ∀ y, y ≠ n0 → y ≠ n1 → y ≠ nb → M2 y = M y := ⟨_, fun _ _ _ => Iff.rfl⟩
  obtain ⟨W, hW⟩ := hSt
  subst hN
  refine zseqG fun N hN => ?_
  walk_at "wq"
  refine forB_suf (f := fmD) W ?_ ?_ fs _ _ ((hW _ _ _).mpr ⟨[], [], [], _, _, _, _, rfl, rfl, .nil, .nil, by rw [Sto.put_n n0b, Sto.put_n n01, Sto.put_s]; rfl, by rw [Sto.put_n n1b, Sto.put_s]; rfl, Sto.put_s, fun y h1 h2 h3 => by rw [Sto.put_n h3, Sto.put_n h2, Sto.put_n h1]⟩)
  · intro x xs env M2 w N2 hN2
    obtain ⟨dn, v0, v1, t6, t7, t8, t9, rfl, edn, r0, r1, m0, m1, mb, fr⟩ := (hW _ _ _).mp w
    clear w
    have mx : x ∈ fs := by rw [← edn]; exact List.mem_append.mpr (.inr List.mem_cons_self)
    have hx := hf x mx
    have e0 := prd_len r0
    have e1 := prd_len r1
    have ld : dn.length ≤ 4 := by
      have := congrArg List.length edn
      rw [List.length_append] at this
      omega
    unfold fmD
    walk_at "wq"
    refine zseqG fun N3 hN3 => ?_
    walk_at "wq"
    refine draw (by omega) (by omega) fun u u0 u1 => ?_
    subst hN3
    refine zseqG fun N3 hN3 => ?_
    walk_at "wq"
    subst hN3
    have step : ∀ v : Int, 0 ≤ v → v < x.2 → ∀ env3 M3, env3 = [Sl.d .pool, Sl.d (.cell a.d), Sl.d (.tup (fs.map fmD)), Sl.d (.tup (nms.map .str)), Sl.d (lgD p q bs), Sl.d (.cell nb), Sl.d (.str x.1), Sl.d (.int x.2), Sl.d (.int u), Sl.d (.int v), Sl.u, Sl.u, Sl.u, Sl.u, Sl.u, Sl.u, Sl.u, Sl.u] → M3 = M2 → zSeq (zAppC (b2 drf dId kIx (upE (aVar 5)) (upE (aC (Dat.int 0)))) (upE (aVar 8))) (zAppC (b2 drf dId kIx (upE (aVar 5)) (upE (aC (Dat.int 1)))) (upE (aVar 9))) { nx := N2, rt := P, bk := N, ct := N2, ex := fun _ => X } env3 M3 := fun v h0 h1 env3 M3 e1 e2 => by
      subst e1 e2
      refine zseqG fun N3 hN3 => ?_
      walk_at "wq"
      rw [mb]
      walk_at "wq"
      rw [m0]
      walk_at "wq"
      refine ⟨by rw [List.length_map]; omega, ?_⟩
      subst hN3
      walk_at "wq"
      rw [Sto.put_n (Ne.symm n0b), mb]
      walk_at "wq"
      rw [Sto.put_n (Ne.symm n01), m1]
      walk_at "wq"
      refine ⟨by rw [List.length_map]; omega, ?_⟩
      refine hN2 _ _ ((hW _ _ _).mpr ⟨dn ++ [x], v0 ++ [u], v1 ++ [v], _, _, _, _, rfl, by rw [List.append_assoc]; exact edn, prd_snoc ⟨u0, u1⟩ r0, prd_snoc ⟨h0, h1⟩ r1, ?_, ?_, ?_, fun y hy0 hy1 hyb => ?_⟩)
      · rw [Sto.put_n n01, Sto.put_s, List.map_append]
        rfl
      · rw [Sto.put_s, List.map_append]
        rfl
      · rw [Sto.put_n (Ne.symm n1b), Sto.put_n (Ne.symm n0b), mb]
      · rw [Sto.put_n hy1, Sto.put_n hy0, fr y hy0 hy1 hyb]
    refine ⟨fun env3 M3 => ∃ v : Int, (0 ≤ v ∧ v < x.2) ∧ env3 = [Sl.d .pool, Sl.d (.cell a.d), Sl.d (.tup (fs.map fmD)), Sl.d (.tup (nms.map .str)), Sl.d (lgD p q bs), Sl.d (.cell nb), Sl.d (.str x.1), Sl.d (.int x.2), Sl.d (.int u), Sl.d (.int v), Sl.u, Sl.u, Sl.u, Sl.u, Sl.u, Sl.u, Sl.u, Sl.u] ∧ M3 = M2, ?_, fun env3 M3 ⟨v, hv, e1, e2⟩ => step v hv.1 hv.2 env3 M3 e1 e2⟩
    walk_at "wq"
    refine draw (by omega) (by omega) fun c _ _ => ?_
    walk_at "wq"
    refine twoD (fun _ => ?_) (fun _ => ⟨u, ⟨u0, u1⟩, by first | trivial | rfl, by first | trivial | rfl⟩)
    refine draw (by omega) (by omega) fun v h0 h1 => ⟨v, ⟨h0, h1⟩, by first | trivial | rfl, by first | trivial | rfl⟩
  intro env M2 w
  obtain ⟨dn, v0, v1, t6, t7, t8, t9, rfl, edn, r0, r1, m0, m1, mb, fr⟩ := (hW _ _ _).mp w
  clear w hW W
  obtain rfl : dn = fs := by rw [List.append_nil] at edn; exact edn
  clear edn
  show N _ _
  subst hN
  refine zseqG fun N hN => ?_
  walk_at "wq"
  refine draw (by omega) (by omega) fun cv cv0 cv1 => ?_
  obtain ⟨cn, hcn⟩ : ∃ n : Nat, 2 + cv = n := ⟨(2 + cv).toNat, by omega⟩
  walk_at "wq"
  rw [hcn]
  subst hN
  refine zseqG fun N hN => ?_
  walk_at "wq"
  refine draw (by omega) (by omega) fun l0 l00 l01 => ?_
  refine draw (by omega) (by omega) fun l1 l10 l11 => ?_
  subst hN
  have hSt : ∃ W : List Sl → Sto → Prop, ∀ env M3, W env M3 ↔ ∃ (l0 l1 : Nat), env = [Sl.d .pool, Sl.d (.cell a.d), Sl.d (.tup (dn.map fmD)), Sl.d (.tup (nms.map .str)), Sl.d (lgD p q bs), Sl.d (.cell nb), t6, t7, t8, t9, Sl.d (.int cn), Sl.o [.int l0, .int l1], Sl.u, Sl.u, Sl.u, Sl.u, Sl.u, Sl.u] ∧ l0 < cn ∧ l1 < cn ∧ l0 ≠ l1 ∧ M3 = M2 := ⟨_, fun _ _ => Iff.rfl⟩
  obtain ⟨W, hW⟩ := hSt
  refine ⟨W, ?_, ?_⟩
  · walk_at "wq"
    obtain ⟨l0, rfl⟩ : ∃ n : Nat, l0 = n := ⟨l0.toNat, by omega⟩
    obtain ⟨l1, rfl⟩ : ∃ n : Nat, l1 = n := ⟨l1.toNat, by omega⟩
    refine twoD (fun e => ?_) (fun e => (hW _ _).mpr ⟨l0, l1, rfl, by omega, by omega, by omega, rfl⟩)
    refine ⟨by omega, 1, rfl, ?_⟩
    by_cases g : l0 + 1 < cn
    · exact (hW _ _).mpr ⟨l0, l0 + 1, by rw [Int.emod_eq_of_lt (by omega) (by omega)]; rfl, by omega, g, by omega, rfl⟩
    · exact (hW _ _).mpr ⟨l0, 0, by rw [show (l0 : Int) + 1 = cn by omega, Int.emod_self]; rfl, by omega, by omega, by omega, rfl⟩
  intro env M3 w
  obtain ⟨l0, l1, rfl, b0, b1, nl, rfl⟩ := (hW _ _).mp w
  clear w hW W
  refine zseqG fun N hN => ?_
  walk_at "wq"
  subst hN
  refine zseqG fun N hN => ?_
  walk_at "wq"
  refine ⟨by omega, by omega, ?_⟩
  rw [Int.toNat_natCast]
  have z0 : M3 a.p0 = some (.lst (pk0.map pk3D)) := by rw [fr _ (nn hp0 hn0) (nn hp0 hn1') (nn hp0 hnb'), hp0]
  have z1 : M3 a.p1 = some (.lst (pk1.map pk3D)) := by rw [fr _ (nn hp1 hn0) (nn hp1 hn1') (nn hp1 hnb'), hp1]
  have zd : M3 a.d = some (.dK (scK a p q bs ks s0 s1)) := by rw [fr _ (nn hd hn0) (nn hd hn1') (nn hd hnb'), hd]
  have zi : M3 a.pi = some (.lst [.cell a.p0, .cell a.p1]) := by rw [fr _ (nn hpi hn0) (nn hpi hn1') (nn hpi hnb'), hpi]
  have hSt : ∃ W : Nat → List Sl → Sto → Prop, ∀ i env M4, W i env M4 ↔ ∃ (rws : List (Str × Int × Int)) (pa pb : List Pk3) (t6 t7 t13 t14 t15 t16 : Sl), env = [Sl.d .pool, Sl.d (.cell a.d), Sl.d (.tup (dn.map fmD)), Sl.d (.tup (nms.map .str)), Sl.d (lgD p q bs), Sl.d (.cell nb), t6, t7, t8, t9, Sl.d (.int cn), Sl.o [.int l0, .int l1], Sl.o (rws.map rw3D), t13, t14, t15, t16, Sl.u] ∧
    rws.length = i ∧ (∀ (j : Nat) r, rws[j]? = some r → r.2.1 = j ∧ r.1 ∈ nms) ∧ (l0 < i → ∃ rd r, pa = [⟨l0, rd, v0⟩] ∧ (0 ≤ rd ∧ rd < q) ∧ rws[l0]? = some r ∧ r.2.2 = prZ p q (bs.zip (rd :: s0 :: v0))) ∧ (¬ l0 < i → pa = []) ∧ (l1 < i → ∃ rd r, pb = [⟨l1, rd, v1⟩] ∧ (0 ≤ rd ∧ rd < q) ∧ rws[l1]? = some r ∧ r.2.2 = prZ p q (bs.zip (rd :: s1 :: v1))) ∧ (¬ l1 < i → pb = []) ∧
    M4 a.p0 = some (.lst ((pk0 ++ pa).map pk3D)) ∧ M4 a.p1 = some (.lst ((pk1 ++ pb).map pk3D)) ∧ ∀ y, y ≠ a.p0 → y ≠ a.p1 → M4 y = M3 y := ⟨_, fun _ _ _ => Iff.rfl⟩
  obtain ⟨W, hW⟩ := hSt
  refine forB_ran W ((hW _ _ _).mpr ⟨[], [], [], _, _, _, _, _, _, rfl, rfl, fun j r h => (by cases h), fun h => absurd h (Nat.not_lt_zero _), fun _ => rfl, fun h => absurd h (Nat.not_lt_zero _), fun _ => rfl, by rw [List.append_nil]; exact z0, by rw [List.append_nil]; exact z1, fun _ _ _ => rfl⟩) ?_ ?_
  · intro i env M4 hi w N2 hN2
    obtain ⟨rws, pa, pb, t6, t7, t13, t14, t15, t16, rfl, lw, ix, ha, ha', hb, hb', x0, x1, fr4⟩ := (hW _ _ _).mp w
    clear w
    refine zseqG fun N3 hN3 => ?_
    walk_at "wq"
    refine ⟨p, q, 2, bs, rfl, by omega, by omega, by decide, by decide, fun ns ln hn => ?_⟩
    obtain ⟨y0, y1, rfl⟩ : ∃ y0 y1, ns = [y0, y1] := by
      match ns, ln with
      | [y0, y1], _ => exact ⟨y0, y1, rfl⟩
      | [], h => cases h
      | [_], h => cases h
      | _ :: _ :: _ :: _, h => exact absurd h (by simp only [List.length_cons]; omega)
    have hy0 := hn y0 List.mem_cons_self
    refine ⟨by rw [List.length_map]; omega, lcA_relL (fun (f : Fld) y => ∃ n, y = Dat.int n ∧ 0 ≤ n ∧ n < f.2) (fun f hf' Q hQ => ?_) fun ys pr => ?_⟩
    · unfold fmD
      walk_at "dw"
      have := hf f hf'
      refine draw (by omega) (by omega) fun v v0 v1 => hQ _ ⟨v, rfl, v0, v1⟩
    obtain ⟨ys, rfl, _, pr⟩ := paired_ints pr
    have ly := prd_len pr
    have lv0 := prd_len r0
    have lv1 := prd_len r1
    walk_at "wq"
    refine ⟨by rw [List.length_map]; omega, ?_⟩
    subst hN3
    refine zseqG fun N3 hN3 => ?_
    walk_at "wq"
    refine ⟨by omega, by omega, ?_⟩
    have hSt : ∃ W : Nat → List Sl → Sto → Prop, ∀ j env M5, W j env M5 ↔ ∃ (o ot : List Int) (pa' pb' : List Pk3) (t15 t16 : Sl), env = [Sl.d .pool, Sl.d (.cell a.d), Sl.d (.tup (dn.map fmD)), Sl.d (.tup (nms.map .str)), Sl.d (lgD p q bs), Sl.d (.cell nb), t6, t7, t8, t9, Sl.d (.int cn), Sl.o [.int l0, .int l1], Sl.o (rws.map rw3D), Sl.d (.int (0 + (i : Int))), Sl.d (.lst (o.map .int)), t15, t16, Sl.u] ∧
      o = y0 :: ot ∧ ot.length ≤ 5 ∧ (1 ≤ j → l0 = i → o = y0 :: s0 :: v0 ∧ pa' = pa ++ [⟨l0, y0, v0⟩]) ∧ (¬ (1 ≤ j ∧ l0 = i) → pa' = pa) ∧ (2 ≤ j → l1 = i → o = y0 :: s1 :: v1 ∧ pb' = pb ++ [⟨l1, y0, v1⟩]) ∧ (¬ (2 ≤ j ∧ l1 = i) → pb' = pb) ∧
      M5 a.p0 = some (.lst ((pk0 ++ pa').map pk3D)) ∧ M5 a.p1 = some (.lst ((pk1 ++ pb').map pk3D)) ∧ ∀ y, y ≠ a.p0 → y ≠ a.p1 → M5 y = M3 y := ⟨_, fun _ _ _ => Iff.rfl⟩
    obtain ⟨W2, hW2⟩ := hSt
    have lpa : pa.length ≤ 1 := by
      by_cases h : l0 < i
      · obtain ⟨_, _, e, _⟩ := ha h
        rw [e]
        exact Nat.le_refl _
      · rw [ha' h]
        exact Nat.zero_le _
    have lpb : pb.length ≤ 1 := by
      by_cases h : l1 < i
      · obtain ⟨_, _, e, _⟩ := hb h
        rw [e]
        exact Nat.le_refl _
      · rw [hb' h]
        exact Nat.zero_le _
    refine forB_ran W2 ((hW2 _ _ _).mpr ⟨y0 :: y1 :: ys, _, pa, pb, _, _, rfl, rfl, by rw [List.length_cons]; omega, fun h => absurd h (by decide), fun _ => rfl, fun h => absurd h (by decide), fun _ => rfl, x0, x1, fr4⟩) ?_ ?_
    · intro j env M5 hj w N4 hN4
      obtain ⟨o, ot, pa', pb', t15, t16, rfl, eo, lo, c0, c0', c1, c1', x0', x1', fr5⟩ := (hW2 _ _ _).mp w
      clear w
      have q0 : M5 a.d = some (.dK (scK a p q bs ks s0 s1)) := by rw [fr5 a.d (fun e => by rw [e, z0] at zd; cases zd) (fun e => by rw [e, z1] at zd; cases zd), zd]
      have q1 : M5 a.pi = some (.lst [.cell a.p0, .cell a.p1]) := by rw [fr5 _ d4 d5, zi]
      have q2 : M5 n0 = some (.lst (v0.map .int)) := by rw [fr5 n0 (Ne.symm (nn hp0 hn0)) (Ne.symm (nn hp1 hn0)), m0]
      have q3 : M5 n1 = some (.lst (v1.map .int)) := by rw [fr5 n1 (Ne.symm (nn hp0 hn1')) (Ne.symm (nn hp1 hn1')), m1]
      have qb : M5 nb = some (.lst [.cell n0, .cell n1]) := by rw [fr5 nb (Ne.symm (nn hp0 hnb')) (Ne.symm (nn hp1 hnb')), mb]
      have qv : vwD 3 M5 (.cell nb) = .lst [.lst (v0.map .int), .lst (v1.map .int)] := by
        rw [vw_lst qb, List.map_cons, List.map_cons, List.map_nil, vw_lst q2, vw_lst q3]
        have ev : ∀ xs : List Int, (xs.map Dat.int).map (vwD 1 M5) = xs.map Dat.int := fun xs => by
          rw [List.map_map]
          exact List.map_congr_left fun _ _ => vw_i
        rw [ev, ev]
      have qd : vwD 3 M5 (.cell a.d) = .dK ((scK a p q bs ks s0 s1).map fun x => (x.1, vwD 2 M5 x.2)) := vw_dK q0
      have hj2 : j = 0 ∨ j = 1 := by omega
      rcases hj2 with rfl | rfl
      · rw [show (0 : Int) + ((0 : Nat) : Int) = 0 from rfl]
        walk_at "wq"
        refine twoD (fun e => ?_) (fun e => hN4 _ _ ((hW2 _ _ _).mpr ⟨o, ot, pa', pb', _, _, rfl, eo, lo, fun _ z => absurd (by rw [z]; omega) e, fun _ => c0' (by omega), fun z => absurd z (by decide), fun _ => c1' (by omega), x0', x1', fr5⟩))
        refine zseqG fun N5 hN5 => ?_
        walk_at "wq"
        rw [qv, qd, eo]
        walk_at "wq"
        rw [sk_secrets]
        walk_at "wq"
        refine ⟨by rw [List.length_map]; omega, ftAll_of fun d hd => (by obtain ⟨z, _, rfl⟩ := List.mem_map.mp hd; rfl), ?_⟩
        subst hN5
        refine zseqG fun N5 hN5 => ?_
        walk_at "wq"
        rw [q0]
        walk_at "wq"
        rw [sk_picks]
        walk_at "wq"
        rw [q1]
        walk_at "wq"
        subst hN5
        walk_at "wq"
        rw [qv]
        walk_at "wq"
        rw [x0']
        walk_at "wq"
        refine ⟨ftAll_of fun d hd => (by obtain ⟨z, _, rfl⟩ := List.mem_map.mp hd; rfl), by rw [List.length_map, List.length_append, c0' (by omega)]; omega, ?_⟩
        have ei : l0 = i := by omega
        have ep : Dat.tup [.int (0 + (i : Int)), .int y0, .tup (v0.map .int)] = pk3D ⟨l0, y0, v0⟩ := by
          rw [← e]
          rfl
        refine hN4 _ _ ((hW2 _ _ _).mpr ⟨y0 :: s0 :: v0, s0 :: v0, pa ++ [⟨l0, y0, v0⟩], pb', _, _, rfl, rfl, by rw [List.length_cons]; omega, fun _ _ => ⟨rfl, rfl⟩, fun z => absurd ⟨Nat.le_refl _, ei⟩ z, fun z => absurd z (by decide), fun _ => c1' (by omega), ?_, by rw [Sto.put_n (Ne.symm d3), x1'], fun y y1 y2 => by rw [Sto.put_n y1, fr5 y y1 y2]⟩)
        rw [Sto.put_s, ep, c0' (by omega)]
        simp only [List.map_append, List.map_cons, List.map_nil, List.append_assoc]
      · rw [show (0 : Int) + ((1 : Nat) : Int) = 1 from rfl]
        walk_at "wq"
        refine twoD (fun e => ?_) (fun e => hN4 _ _ ((hW2 _ _ _).mpr ⟨o, ot, pa', pb', _, _, rfl, eo, lo, fun _ z => c0 (Nat.le_refl _) z, fun z => c0' (fun h => z ⟨by omega, h.2⟩), fun _ z => absurd (by rw [z]; omega) e, fun _ => c1' (by omega), x0', x1', fr5⟩))
        have ei : l1 = i := by omega
        refine zseqG fun N5 hN5 => ?_
        walk_at "wq"
        rw [qv, qd, eo]
        walk_at "wq"
        rw [sk_secrets]
        walk_at "wq"
        refine ⟨by rw [List.length_map]; omega, ftAll_of fun d hd => (by obtain ⟨z, _, rfl⟩ := List.mem_map.mp hd; rfl), ?_⟩
        subst hN5
        refine zseqG fun N5 hN5 => ?_
        walk_at "wq"
        rw [q0]
        walk_at "wq"
        rw [sk_picks]
        walk_at "wq"
        rw [q1]
        walk_at "wq"
        subst hN5
        walk_at "wq"
        rw [qv]
        walk_at "wq"
        rw [x1']
        walk_at "wq"
        refine ⟨ftAll_of fun d hd => (by obtain ⟨z, _, rfl⟩ := List.mem_map.mp hd; rfl), by rw [List.length_map, List.length_append, c1' (by omega)]; omega, ?_⟩
        have ep : Dat.tup [.int (0 + (i : Int)), .int y0, .tup (v1.map .int)] = pk3D ⟨l1, y0, v1⟩ := by
          rw [← e]
          rfl
        refine hN4 _ _ ((hW2 _ _ _).mpr ⟨y0 :: s1 :: v1, s1 :: v1, pa', pb ++ [⟨l1, y0, v1⟩], _, _, rfl, rfl, by rw [List.length_cons]; omega, fun _ z => absurd (z.trans ei.symm) nl, fun _ => c0' (fun h => nl (h.2.trans ei.symm)), fun _ _ => ⟨rfl, rfl⟩, fun z => absurd ⟨Nat.le_refl _, ei⟩ z, by rw [Sto.put_n d3, x0'], ?_, fun y y1 y2 => by rw [Sto.put_n y2, fr5 y y1 y2]⟩)
        rw [Sto.put_s, ep, c1' (by omega)]
        simp only [List.map_append, List.map_cons, List.map_nil, List.append_assoc]
    intro env M5 w
    obtain ⟨o, ot, pa', pb', t15, t16, rfl, eo, lo, c0, c0', c1, c1', x0', x1', fr5⟩ := (hW2 _ _ _).mp w
    clear w hW2 W2
    show N3 _ _
    subst hN3
    walk_at "wq"
    rw [List.length_map, List.length_map]
    obtain ⟨L, hL⟩ : ∃ L : Nat, L = nms.length := ⟨_, rfl⟩
    rw [← hL]
    have pos : (0 : Int) ≤ (0 + (i : Int)) * (L : Int) := Int.mul_nonneg (by omega) (by omega)
    have lt3 : (0 + (i : Int)) * (L : Int) < (L : Int) * (cn : Int) := by
      rw [Int.mul_comm (L : Int)]
      exact Int.mul_lt_mul_of_pos_right (by omega) (by omega)
    refine ⟨by omega, .inr ⟨by omega, by omega⟩, ?_, ?_⟩
    · exact ⟨by omega, by omega⟩
    refine oa_any (Int.ediv_nonneg pos (by omega)) (by rw [← hL]; exact Int.ediv_lt_of_lt_mul (by omega) lt3) fun nm hnm => ?_
    refine ⟨false, p, q, bs, o, rfl, by omega, by omega, by omega, by omega, by rw [eo, List.length_cons]; omega, by rw [eo, List.length_cons]; omega, ?_⟩
    have em : l0 < i + 1 → l0 < i ∨ l0 = i := fun h => by omega
    have em1 : l1 < i + 1 → l1 < i ∨ l1 = i := fun h => by omega
    have nw : (rws ++ [(nm, (i : Int), prZ p q (bs.zip o))])[i]? = some (nm, (i : Int), prZ p q (bs.zip o)) := by
      rw [← lw]
      exact List.getElem?_concat_length
    have ol : ∀ (j : Nat) r, rws[j]? = some r → (rws ++ [(nm, (i : Int), prZ p q (bs.zip o))])[j]? = some r := fun j r h => by
      rw [List.getElem?_append_left (List.getElem?_eq_some_iff.mp h).1]
      exact h
    refine hN2 _ _ ((hW _ _ _).mpr ⟨rws ++ [(nm, (i : Int), prZ p q (bs.zip o))], pa', pb', t6, t7, .d (.int (0 + (i : Int))), .d (.lst (o.map .int)), t15, t16, ?_, by rw [List.length_append, lw]; rfl, fun j r hr => ?_, fun h => ?_, fun h => ?_, fun h => ?_, fun h => ?_, x0', x1', fr5⟩)
    · rw [List.map_append, Int.zero_add]
      rfl
    · by_cases hj : j < rws.length
      · rw [List.getElem?_append_left hj] at hr
        exact ix j r hr
      · have hjl := (List.getElem?_eq_some_iff.mp hr).1
        rw [List.length_append, List.length_singleton] at hjl
        obtain rfl : j = i := by omega
        rw [nw] at hr
        cases hr
        exact ⟨rfl, hnm⟩
    · rcases em h with h | rfl
      · obtain ⟨rd, r, e1, e2, e3, e4⟩ := ha h
        exact ⟨rd, r, by rw [c0' (by omega)]; exact e1, e2, ol _ _ e3, e4⟩
      · obtain ⟨e1, e2⟩ := c0 (by omega) rfl
        exact ⟨y0, _, by rw [e2, ha' (Nat.lt_irrefl _)]; rfl, hy0, nw, by rw [← e1]⟩
    · rw [c0' (by omega), ha' (by omega)]
    · rcases em1 h with h | rfl
      · obtain ⟨rd, r, e1, e2, e3, e4⟩ := hb h
        exact ⟨rd, r, by rw [c1' (by omega)]; exact e1, e2, ol _ _ e3, e4⟩
      · obtain ⟨e1, e2⟩ := c1 (by omega) rfl
        exact ⟨y0, _, by rw [e2, hb' (Nat.lt_irrefl _)]; rfl, hy0, nw, by rw [← e1]⟩
    · rw [c1' (by omega), hb' (by omega)]
  intro env M4 w
  obtain ⟨rws, pa, pb, t6, t7, t13, t14, t15, t16, rfl, lw, ix, ha, ha', hb, hb', x0, x1, fr4⟩ := (hW _ _ _).mp w
  clear w hW W
  obtain ⟨rd0, r0', rfl, g0, gr0, ge0⟩ := ha b0
  obtain ⟨rd1, r1', rfl, g1, gr1, ge1⟩ := hb b1
  show N _ _
  subst hN
  have hroM : M4 a.ro = some (.lst rows) := by rw [fr4 _ d1 d2, fr _ (nn hro hn0) (nn hro hn1') (nn hro hnb'), hro]
  have hdM : M4 a.d = some (.dK (scK a p q bs ks s0 s1)) := by
    rw [fr4 a.d (fun e => by rw [e, z0] at zd; cases zd) (fun e => by rw [e, z1] at zd; cases zd), zd]
  refine zseqG fun N hN => ?_
  walk_at "wq"
  rw [hdM]
  walk_at "wq"
  rw [sk_rows]
  subst hN
  walk_at "wq"
  rw [hroM]
  walk_at "wq"
  refine ⟨by omega, ?_⟩
  refine hp rws ⟨l0, rd0, v0⟩ ⟨l1, rd1, v1⟩ _ ⟨prd_len r0, r0, g0⟩ ⟨prd_len r1, r1, g1⟩ ⟨by omega, ix, ⟨l0, r0', rfl, gr0, ge0⟩, ⟨l1, r1', rfl, gr1, ge1⟩, fun e => nl (Int.ofNat.inj e)⟩ (fun y y1 y2 y3 y4 => ?_) Sto.put_s ?_ ?_
  · rw [Sto.put_n y1, fr4 y y2 y3, fr y (fun e => y4 (by rw [e]; exact hn0)) (fun e => y4 (by rw [e]; exact hn1')) (fun e => y4 (by rw [e]; exact hnb'))]
  · rw [Sto.put_n (Ne.symm d1), x0]
  · rw [Sto.put_n (Ne.symm d2), x1]
end
def kyD : Key → Dat
  | .inl i => .int i
  | .inr s => .str s
theorem ksQ_ky {k : Key} {P : Key → Prop} (h : P k) : ksQ (kyD k) P := by
  cases k <;> exact h
def mkD {α : Type} (kf : α → Key) (g : α → Dat) (acc : List (Key × Dat)) (xs : List α) : List (Key × Dat) := xs.foldl (fun acc x => putD acc (kf x) (g x)) acc
theorem lcD_map {α : Type} {f : α → Dat} {el : Dat → (Option (Dat × Dat) → Prop) → Prop} {P : List (Key × Dat) → Prop} (kf : α → Key) (g : α → Dat) : ∀ {xs : List α} {acc : List (Key × Dat)}, (∀ x ∈ xs, ∀ Q : Option (Dat × Dat) → Prop, Q (some (kyD (kf x), g x)) → el (f x) Q) → P (mkD kf g acc xs) → lcD el P (xs.map f) acc
  | [], _, _, p => p
  | x :: xs, acc, h, p => by
    rw [List.map_cons]
    refine h x List.mem_cons_self _ ?_
    exact ksQ_ky (lcD_map kf g (fun y hy => h y (List.mem_cons_of_mem _ hy)) p)
/-- the fields of the last kind of a name -/
def lkK (nm : Str) (ks : List Kd) : Option (List Fld) := ks.foldl (fun a k => if k.1 = nm then some k.2 else a) none
theorem ks_shape {ks : List Kd} (h : KsOk ks) : (∃ f0, ks = [(("person" : Str), f0)]) ∨ ∃ f0 f1, ks = [(("person" : Str), f0), ("club", f1)] := by
  rcases h.nm with e | e
  · match ks, e with
    | [(a, f0)], e =>
      obtain rfl : a = "person" := (List.cons.inj e).1
      exact .inl ⟨f0, rfl⟩
  · match ks, e with
    | [(a, f0), (b, f1)], e =>
      obtain rfl : a = "person" := (List.cons.inj e).1
      obtain rfl : b = "club" := (List.cons.inj (List.cons.inj e).2).1
      exact .inr ⟨f0, f1, rfl⟩
theorem pc_ne : ("person" : Str) ≠ "club" := by rw [ne_eq, ofS_inj]; decide
theorem ks_filt {ks : List Kd} (h : KsOk ks) {kn : Str} {fs : List Fld} (m : (kn, fs) ∈ ks) : ks.filter (fun k => decide (k.1 = kn)) = [(kn, fs)] := by
  rcases ks_shape h with ⟨f0, rfl⟩ | ⟨f0, f1, rfl⟩
  · obtain ⟨rfl, rfl⟩ := Prod.mk.inj (List.mem_singleton.mp m)
    rw [List.filter_cons, if_pos (decide_eq_true rfl), List.filter_nil]
  · rcases List.mem_cons.mp m with e | m
    · obtain ⟨rfl, rfl⟩ := Prod.mk.inj e
      rw [List.filter_cons, if_pos (decide_eq_true rfl), List.filter_cons, if_neg (by rw [decide_eq_true_eq]; exact Ne.symm pc_ne), List.filter_nil]
    · obtain ⟨rfl, rfl⟩ := Prod.mk.inj (List.mem_singleton.mp m)
      rw [List.filter_cons, if_neg (by rw [decide_eq_true_eq]; exact pc_ne), List.filter_cons, if_pos (decide_eq_true rfl), List.filter_nil]
theorem GOk.take {p q : Int} {bs : List Int} (g : GOk p q bs) (l : 6 ≤ bs.length) : GOk p q (bs.take 5) := by
  have lm := g.lm
  refine ⟨g.p3, g.pm, g.pp, g.qp, g.dv, by rw [List.length_take]; omega, by rw [List.length_take]; omega, fun b hb => g.el b (List.mem_of_mem_take hb), ?_⟩
  exact List.Nodup.sublist (List.take_sublist 5 bs) g.nd
theorem lkK_find {ks : List Kd} (h : KsOk ks) (nm : Str) : lkK nm ks = (ks.find? fun k => decide (k.1 = nm)).map (·.2) := by
  rcases ks_shape h with ⟨f0, rfl⟩ | ⟨f0, f1, rfl⟩
  · show (if ("person" : Str) = nm then some f0 else none) = _
    by_cases e : ("person" : Str) = nm
    · subst e
      simp [List.find?_cons]
    · simp [List.find?_cons, e]
  · show (if ("club" : Str) = nm then some f1 else if ("person" : Str) = nm then some f0 else none) = _
    by_cases e : ("person" : Str) = nm
    · subst e
      simp [List.find?_cons, Ne.symm pc_ne]
    · by_cases g : ("club" : Str) = nm
      · subst g
        simp [List.find?_cons, pc_ne]
      · simp [List.find?_cons, e, g]
theorem lkK_of {ks : List Kd} (h : KsOk ks) {kn : Str} {kf : List Fld} (m : (kn, kf) ∈ ks) : lkK kn ks = some kf := by
  rw [lkK_find h, ← List.head?_filter, ks_filt h m]
  rfl
abbrev s__law_fields : Stmt := top 47
theorem sc__law_fields : FnScope ["scene", "found", "card", "fields", "value", "names", "kind", "side"] ["scene"] (defScope s__law_fields) := ⟨rfl, rfl, rfl, by decide +kernel, rfl, by decide +kernel, by decide +kernel⟩
structure Cd where
  nm : Str
  kn : Str
  is : List Str
def cdD (c : Cd) : Dat := .tup [.str c.nm, .str c.kn, .tup (c.is.map .str)]
def CdOk (c : Cd) : Prop := PyData.strOk c.nm = true ∧ PyData.strOk c.kn = true ∧ ∀ s ∈ c.is, PyData.strOk s = true
/-- the scene's cells -/
structure ScAt (M : Sto) (a : ScA) (p q s0 s1 : Int) (bs : List Int) (ks : List Kd) (cs : List Cd) (co rows : List Dat) (pk0 pk1 : List Pk3) : Prop where
  hd : M a.d = some (.dK (scK a p q bs ks s0 s1))
  hca : M a.ca = some (.lst (cs.map cdD))
  hco : M a.co = some (.lst co)
  hro : M a.ro = some (.lst rows)
  hpi : M a.pi = some (.lst [.cell a.p0, .cell a.p1])
  hp0 : M a.p0 = some (.lst (pk0.map pk3D))
  hp1 : M a.p1 = some (.lst (pk1.map pk3D))
def scD (p q s0 s1 : Int) (bs : List Int) (ks : List Kd) (cs : List Cd) (co rows : List Dat) (pk0 pk1 : List Pk3) : List (Key × Dat) := [(.inr "group", lgD p q bs), (.inr "kinds", .lst (ks.map kdT)), (.inr "cards", .lst (cs.map cdD)), (.inr "conditions", .lst co), (.inr "rows", .lst rows), (.inr "picks", .lst [.lst (pk0.map pk3D), .lst (pk1.map pk3D)]), (.inr "secrets", .lst [.int s0, .int s1])]
section
variable {a : ScA} {M : Sto} {p q s0 s1 : Int} {bs : List Int} {ks : List Kd} {cs : List Cd} {co rows : List Dat} {pk0 pk1 : List Pk3}
theorem ScAt.vw (h : ScAt M a p q s0 s1 bs ks cs co rows pk0 pk1) (hc : ∀ d ∈ co, ∃ xs, d = .tup xs) (hr : ∀ d ∈ rows, ∃ xs, d = .tup xs) : vwD 3 M (.cell a.d) = .dK (scD p q s0 s1 bs ks cs co rows pk0 pk1) := by
  rw [vw_dK h.hd]
  unfold scK scD
  simp only [List.map_cons, List.map_nil]
  have et : ∀ {n : Nat} {xs : List Dat}, (∀ d ∈ xs, ∃ ys, d = .tup ys) → xs.map (vwD n M) = xs := fun {n xs} hx => by
    refine (List.map_congr_left fun d hd => ?_).trans (List.map_id xs)
    obtain ⟨ys, rfl⟩ := hx d hd
    exact vw_t
  have e1 : vwD 2 M (.cell a.ca) = .lst (cs.map cdD) := by rw [vw_lst h.hca, et fun d hd => (by obtain ⟨c, _, rfl⟩ := List.mem_map.mp hd; exact ⟨_, rfl⟩)]
  have e2 : vwD 2 M (.cell a.co) = .lst co := by rw [vw_lst h.hco, et hc]
  have e3 : vwD 2 M (.cell a.ro) = .lst rows := by rw [vw_lst h.hro, et hr]
  have e4 : vwD 2 M (.cell a.pi) = .lst [.lst (pk0.map pk3D), .lst (pk1.map pk3D)] := by
    rw [vw_lst h.hpi, List.map_cons, List.map_cons, List.map_nil, vw_lst h.hp0, vw_lst h.hp1, et fun d hd => (by obtain ⟨c, _, rfl⟩ := List.mem_map.mp hd; exact ⟨_, rfl⟩), et fun d hd => (by obtain ⟨c, _, rfl⟩ := List.mem_map.mp hd; exact ⟨_, rfl⟩)]
  have e5 : vwD 2 M (lgD p q bs) = lgD p q bs := vw_t
  rw [e1, e2, e3, e4, e5, vw_l, vw_l]
theorem sd_cards : dgetD (scD p q s0 s1 bs ks cs co rows pk0 pk1) (.inr "cards") = some (.lst (cs.map cdD)) := by unfold scD; simp only [dg_c, ofS_inj, Sum.inr.injEq, String.reduceEq, reduceIte]
theorem sd_kinds : dgetD (scD p q s0 s1 bs ks cs co rows pk0 pk1) (.inr "kinds") = some (.lst (ks.map kdT)) := by unfold scD; simp only [dg_c, ofS_inj, Sum.inr.injEq, String.reduceEq, reduceIte]
theorem sd_picks : dgetD (scD p q s0 s1 bs ks cs co rows pk0 pk1) (.inr "picks") = some (.lst [.lst (pk0.map pk3D), .lst (pk1.map pk3D)]) := by unfold scD; simp only [dg_c, ofS_inj, Sum.inr.injEq, String.reduceEq, reduceIte]
end
/-- a field of a card, with both holders' values -/
structure Fe where
  cn : Str
  fn : Str
  sz : Int
  b0 : Int
  b1 : Int
def feD (e : Fe) : Dat := .tup [.tup [.str e.cn, .str e.fn], .int e.sz, .lst [.int e.b0, .int e.b1]]
def fesC (kf : List Fld) (c : Cd) (x y : Pk3) : List Fe := (kf.zip (x.vs.zip y.vs)).map fun z => ⟨c.nm, z.1.1, z.1.2, z.2.1, z.2.2⟩
section
variable {P : Program} {w : World} {K : PySem.W.Frag} {mg : Str → Option Value} {base : Heap} {ca : Nat → Addr}
def kfS (ks : List Kd) (c : Cd) : List Fld := (lkK c.kn ks).getD []
def fesA (ks : List Kd) (zs : List (Cd × Pk3 × Pk3)) : List Fe := (zs.map fun z => fesC (kfS ks z.1) z.1 z.2.1 z.2.2).flatten
def bspLFields : BSp := fun ds M X P => ∃ (a : ScA) (p q s0 s1 : Int) (bs : List Int) (ks : List Kd) (cs : List Cd) (co rows : List Dat) (pk0 pk1 : List Pk3), ds = [.cell a.d] ∧ ScAt M a p q s0 s1 bs ks cs co rows pk0 pk1 ∧ ((∀ d ∈ co, ∃ xs, d = .tup xs) ∧ (∀ d ∈ rows, ∃ xs, d = .tup xs) ∧ KsOk ks ∧ cs.length ≤ 10 ∧ pk0.length = cs.length ∧ pk1.length = cs.length) ∧
  (∀ (k : Nat) c x y, cs[k]? = some c → pk0[k]? = some x → pk1[k]? = some y → (∃ kf, (c.kn, kf) ∈ ks) ∧ x.vs.length = (kfS ks c).length ∧ y.vs.length = (kfS ks c).length) ∧ P (.lst ((fesA ks (cs.zip (pk0.zip pk1))).map feD)) M
theorem ok_law_fields {f : Addr} {fd : FuncData} (F : Fun K "_law_fields" "_law_fields" s__law_fields f fd) (B : Blt mg) : FnOk P w K mg base CX0 5 f fd ["scene"] (toSp2 K ca bspLFields) := by
  refine F.ok sc__law_fields (fun vs H Q E h => sp_len2 (n := 1) (fun ds M X P a => by obtain ⟨_, _, _, _, _, _, _, _, _, _, _, _, rfl, _⟩ := a; rfl) h) (fun cdv A outer s H vs Q E hr h => ⟨_, (pss_cons (ps_set (i := 1) sc__law_fields.nd rfl (.inl rfl) (pe_lst pa_nil))
      (pss_cons (ps_for PassesOwn.never rfl (pi_range1 rfl B.range (pa_cons (pe_callB (klen (K := K) rfl) (by rfl) B.len bt_len (pa_cons (pe_dget (hu_of hr) (pv 0) pe_str (fun _ _ => rfl)) pa_nil)) pa_nil)) (pg_name (i := 2) sc__law_fields.nd rfl (.inr rfl))
      (pss_cons (ps_set (i := 3) sc__law_fields.nd rfl (.inl rfl) (pe_ix (kixs (K := K) rfl) (pe_lc (own := [("kind", 6), ("fields", 3)]) rfl sc__law_fields.nd (kpil (K := K) rfl (pe_dget (hu_of hr) (pv 0) pe_str (fun _ _ => rfl))) (blkOk_by (N := ["scene", "found", "card", "fields", "value", "names", "kind", "side"]) (sc := defScope s__law_fields) (by decide +kernel))
        (fun _ _ _ _ _ => (kgtup (K := K) (n := 2) rfl rfl (pgs_cons (pg_name (i := 6) sc__law_fields.nd rfl (.inl rfl)) (pgs_cons (pg_name (i := 3) sc__law_fields.nd rfl (.inl rfl)) pgs_nil)))) (fun _ _ _ _ _ => pts_one (pt_cmpR op_eq (pv 6) (pe_ix (kixs (K := K) rfl) (pe_ix (kixs (K := K) rfl) (pe_dget (hu_of hr) (pv 0) pe_str (fun _ _ => rfl)) (pv 2) (fun _ _ => rfl)) pe_int (fun _ _ => rfl)) (nomark _)))
        (fun _ _ _ _ _ => (pv 3))) pe_int (fun _ _ => rfl)))
      (pss_one (ps_for PassesOwn.never rfl (pi_range1 rfl B.range (pa_cons (pe_callB (klen (K := K) rfl) (by rfl) B.len bt_len (pa_cons (pv 3) pa_nil)) pa_nil)) (pg_name (i := 4) sc__law_fields.nd rfl (.inr rfl))
      (pss_cons (ps_set (i := 5) sc__law_fields.nd rfl (.inl rfl) (pe_tupF (pa_cons (pe_ix (kixs (K := K) rfl) (pe_ix (kixs (K := K) rfl) (pe_dget (hu_of hr) (pv 0) pe_str (fun _ _ => rfl)) (pv 2) (fun _ _ => rfl)) pe_int (fun _ _ => rfl)) (pa_cons (pe_ix (kixs (K := K) rfl) (pe_ix (kixs (K := K) rfl) (pv 3) (pv 4) (fun _ _ => rfl)) pe_int (fun _ _ => rfl)) pa_nil))))
      (pss_one (ps_expr (pe_bm PySem.F.plainAttrs_list PySem.F.slot_list_append PySem.F.type_list_append mt_append (pv 1) (pa_cons (pe_tupF (pa_cons (pv 5) (pa_cons (pe_ix (kixs (K := K) rfl) (pe_ix (kixs (K := K) rfl) (pv 3) (pv 4) (fun _ _ => rfl)) pe_int (fun _ _ => rfl)) (pa_cons (pe_lc (own := [("side", 7)]) (g := gName 7) (tt := tYes) rfl sc__law_fields.nd (pi_range1 rfl B.range (pa_cons pe_int pa_nil)) (blkOk_by (N := ["scene", "found", "card", "fields", "value", "names", "kind", "side"]) (sc := defScope s__law_fields) (by decide +kernel))
        (fun _ _ _ _ _ => (pg_name (i := 7) sc__law_fields.nd rfl (.inl rfl))) (fun _ _ _ _ _ => pts_nil)
        (fun _ _ _ _ _ => (pe_ix (kixs (K := K) rfl) (pe_ix (kixs (K := K) rfl) (pe_ix (kixs (K := K) rfl) (pe_ix (kixs (K := K) rfl) (pe_dget (hu_of hr) (pv 0) pe_str (fun _ _ => rfl)) (pv 7) (fun _ _ => rfl)) (pv 2) (fun _ _ => rfl)) pe_int (fun _ _ => rfl)) (pv 4) (fun _ _ => rfl)))) pa_nil)))) pa_nil)))))))))
      (pss_one (ps_ret (pv 1))))),
    fn_run2 h (fun po => (z_seq (z_setO fun _ => (b_upF fun _ => (a_lst a_nil)))
      (z_seq (z_for (vs := [2]) (fun _ => (b_ran (b_cons (b_upV 3 fun _ => (a_b1 u_len (a_pk (a_dget a_var a_str)))) b_nil))) (fun _ => (g_name (by decide)))
      (z_seq (z_set fun _ => (b_upV 3 fun _ => (a_op pst_pk rok_ix (a_pk (a_fz (a_lc (vs := [6, 3]) (i_list (a_dget a_var a_str)) (g_tup (g_cons (g_name (by decide)) (g_cons (g_name (by decide)) g_nil tot_name) tot_name)) (a_test (a_op pst_rv rok_eq a_var (a_op pst_pk rok_ix (a_pk (a_op pst_pk rok_ix (a_pk (a_dget a_var a_str)) a_var)) a_int))) a_var))) a_int)))
      (z_for (vs := [4]) (fun _ => (b_upI fun _ => (i_ran1 (a_cons (a_b1 u_len (a_pk a_var)) a_nil)))) (fun _ => (g_name (by decide)))
      (z_seq (z_set fun _ => (b_upV 3 fun _ => (a_tup (a_cons (a_op pst_pk rok_ix (a_pk (a_op pst_pk rok_ix (a_pk (a_dget a_var a_str)) a_var)) a_int) (a_cons (a_op pst_pk rok_ix (a_pk (a_op pst_pk rok_ix (a_pk a_var) a_var)) a_int) a_nil)))))
      (z_app fun _ => (b_tup (b_cons (b_up fun _ => a_var) (b_cons (b_up fun _ => (a_op pst_pk rok_ix (a_pk (a_op pst_pk rok_ix (a_pk a_var) a_var)) a_int)) (b_cons (b_fz (b_upVF 3 fun _ => (a_lc (vs := [7]) (i_ran1 (a_cons a_int a_nil)) (g_name (by decide)) a_yes (a_op pst_pk rok_ix (a_pk (a_op pst_pk rok_ix (a_pk (a_op pst_pk rok_ix (a_pk (a_op pst_pk rok_ix (a_pk (a_dget a_var a_str)) a_var)) a_var)) a_int)) a_var)))) b_nil)))))))))
      (z_fz (i := 1) (z_ret fun _ => (b_up fun _ => a_var)))))) (fun ds M X P a => by obtain ⟨_, _, _, _, _, _, _, _, _, _, _, _, rfl, _⟩ := a; exact Nat.le_of_ble_eq_true rfl) ?_⟩)
  rintro ds M X P ⟨a, p, q, s0, s1, bs, ks, cs, co, rows, pk0, pk1, rfl, hs, ⟨hc, hr, kok, lc, l0, l1⟩, hk, hp⟩
  have vw := hs.vw hc hr
  have kl : ks.length ≤ 2 := by rcases ks_shape kok with ⟨_, e⟩ | ⟨_, _, e⟩ <;> rw [e] <;> exact Nat.le_of_ble_eq_true rfl
  refine zseqG fun N hN => ?_
  walk_at "wq"
  subst hN
  refine zseqG fun N hN => ?_
  walk_at "wq"
  rw [vw]
  walk_at "wq"
  rw [sd_cards]
  walk_at "wq"
  rw [List.length_map]
  refine ⟨by omega, by omega, ?_⟩
  rw [Int.toNat_natCast]
  obtain ⟨Z, hZ⟩ : ∃ Z, Z = cs.zip (pk0.zip pk1) := ⟨_, rfl⟩
  rw [← hZ] at hp
  have lZ : Z.length = cs.length := by rw [hZ, List.length_zip, List.length_zip]; omega
  have hSt : ∃ W : Nat → List Sl → Sto → Prop, ∀ k env M2, W k env M2 ↔ ∃ (es : List Fe) (t2 t3 t4 t5 : Sl), env = [Sl.d (.cell a.d), Sl.o (es.map feD), t2, t3, t4, t5, Sl.u, Sl.u] ∧ es = fesA ks (Z.take k) ∧ es.length ≤ 4 * k ∧ M2 = M := ⟨_, fun _ _ _ => Iff.rfl⟩
  obtain ⟨W, hW⟩ := hSt
  refine forB_ran W ((hW _ _ _).mpr ⟨[], _, _, _, _, rfl, by rw [List.take_zero]; rfl, Nat.le_refl _, rfl⟩) ?_ ?_
  · intro k env M2 hki w N2 hN2
    obtain ⟨es, t2, t3, t4, t5, rfl, ees, les, rfl⟩ := (hW _ _ _).mp w
    clear w
    have hck : cs[k]? = some cs[k] := List.getElem?_eq_getElem hki
    have hxk : pk0[k]? = some (pk0[k]'(by omega)) := List.getElem?_eq_getElem _
    have hyk : pk1[k]? = some (pk1[k]'(by omega)) := List.getElem?_eq_getElem _
    generalize cs[k] = c at hck
    generalize pk0[k]'(by omega) = x at hxk
    generalize pk1[k]'(by omega) = y at hyk
    obtain ⟨⟨kf, mk⟩, e0, e1⟩ := hk k c x y hck hxk hyk
    have ekf : kfS ks c = kf := by unfold kfS; rw [lkK_of kok mk]; rfl
    rw [ekf] at e0 e1
    have k4 : kf.length ≤ 4 := (kok.fs _ mk).1
    refine zseqG fun N3 hN3 => ?_
    walk_at "wq"
    rw [vw]
    walk_at "wq"
    rw [sd_kinds]
    walk_at "wq"
    refine ⟨by rw [List.length_map]; omega, ?_⟩
    refine lcA_filL (g := fun z : Kd => Dat.tup (z.2.map fmD)) (fun z => decide (z.1 = c.kn)) (fun z hz Q q1 q2 => ?_) ?_
    · unfold kdT
      walk_at "dw"
      rw [sd_cards]
      walk_at "dw"
      refine oa_at (Int.zero_add _) hck ?_
      unfold cdD
      walk_at "dw"
      refine twoD (fun e => q1 (decide_eq_true e)) (fun e => q2 (decide_eq_false e))
    rw [ks_filt kok mk]
    walk_at "wq"
    refine ⟨ftAll_of fun d hd => (by obtain ⟨z, _, rfl⟩ := List.mem_map.mp hd; rfl), ?_⟩
    show N3 _ _
    subst hN3
    walk_at "wq"
    rw [List.length_map]
    refine ⟨by omega, by omega, ?_⟩
    rw [Int.toNat_natCast]
    have hSt : ∃ W : Nat → List Sl → Sto → Prop, ∀ j env M3, W j env M3 ↔ ∃ (t4 t5 : Sl), env = [Sl.d (.cell a.d), Sl.o ((es ++ (fesC kf c x y).take j).map feD), Sl.d (.int (0 + (k : Int))), Sl.d (.tup (kf.map fmD)), t4, t5, Sl.u, Sl.u] ∧ M3 = M2 := ⟨_, fun _ _ _ => Iff.rfl⟩
    obtain ⟨W2, hW2⟩ := hSt
    have lF : (fesC kf c x y).length = kf.length := by
      unfold fesC
      rw [List.length_map, List.length_zip, List.length_zip]
      omega
    refine forB_ran W2 ((hW2 _ _ _).mpr ⟨_, _, by rw [List.take_zero, List.append_nil], rfl⟩) ?_ ?_
    · intro j env M3 hj w N4 hN4
      obtain ⟨t4, t5, rfl, rfl⟩ := (hW2 _ _ _).mp w
      clear w
      have hfj : kf[j]? = some kf[j] := List.getElem?_eq_getElem hj
      have hvj : x.vs[j]? = some (x.vs[j]'(by omega)) := List.getElem?_eq_getElem _
      have hwj : y.vs[j]? = some (y.vs[j]'(by omega)) := List.getElem?_eq_getElem _
      have hFj : (fesC kf c x y)[j]? = some ⟨c.nm, kf[j].1, kf[j].2, x.vs[j]'(by omega), y.vs[j]'(by omega)⟩ := by
        unfold fesC
        rw [List.getElem?_map, List.getElem?_eq_getElem (by rw [List.length_zip, List.length_zip]; omega), List.getElem_zip, List.getElem_zip]
        rfl
      generalize kf[j] = f at hfj hFj
      generalize x.vs[j]'(by omega) = u at hvj hFj
      generalize y.vs[j]'(by omega) = v at hwj hFj
      refine zseqG fun N5 hN5 => ?_
      walk_at "wq"
      rw [vw]
      walk_at "wq"
      rw [sd_cards]
      walk_at "wq"
      refine oa_at (Int.zero_add _) hck ?_
      unfold cdD
      walk_at "wq"
      refine oa_at (Int.zero_add _) hfj ?_
      unfold fmD
      walk_at "wq"
      subst hN5
      walk_at "wq"
      have lt : ((es ++ (fesC kf c x y).take j).map feD).length < 100000 := by
        rw [List.length_map, List.length_append, List.length_take]
        omega
      refine ⟨lt, oa_at (f := fun x : Fld => Dat.tup [Dat.str x.1, Dat.int x.2]) (Int.zero_add _) hfj ?_⟩
      walk_at "wq"
      refine ⟨by omega, by omega, by rw [List.length_map, List.length_range]; decide, ?_⟩
      rw [vw]
      refine lcA_mapL (g := fun i : Nat => Dat.int (if i = 0 then u else v)) (fun i hi Q hQ => ?_) ?_
      · have hi2 : i = 0 ∨ i = 1 := by have := List.mem_range.mp hi; omega
        rcases hi2 with rfl | rfl
        · rw [show (0 : Int) + ((0 : Nat) : Int) = 0 from rfl]
          walk_at "dw"
          rw [sd_picks]
          walk_at "dw"
          refine oa_at (Int.zero_add _) hxk ?_
          unfold pk3D
          walk_at "dw"
          refine oa_at (Int.zero_add _) hvj ?_
          exact hQ
        · rw [show (0 : Int) + ((1 : Nat) : Int) = 1 from rfl]
          walk_at "dw"
          rw [sd_picks]
          walk_at "dw"
          refine oa_at (Int.zero_add _) hyk ?_
          unfold pk3D
          walk_at "dw"
          refine oa_at (Int.zero_add _) hwj ?_
          exact hQ
      · refine ⟨rfl, ?_⟩
        have eT : (es ++ (fesC kf c x y).take (j + 1)).map feD = (es ++ (fesC kf c x y).take j).map feD ++ [feD ⟨c.nm, f.1, f.2, u, v⟩] := by
          rw [List.take_add_one, hFj]
          simp only [List.map_append, List.append_assoc, Option.toList_some, List.map_cons, List.map_nil]
        refine hN4 _ _ ((hW2 _ _ _).mpr ⟨.d (.int (0 + (j : Int))), .d (.tup [.str c.nm, .str f.1]), ?_, rfl⟩)
        rw [eT]
        rfl
    · intro env M3 w
      obtain ⟨t4, t5, rfl, rfl⟩ := (hW2 _ _ _).mp w
      rw [← lF, List.take_length]
      refine hN2 _ _ ((hW _ _ _).mpr ⟨es ++ fesC kf c x y, _, _, _, _, rfl, ?_, by rw [List.length_append]; omega, rfl⟩)
      have hZk : Z[k]? = some (c, x, y) := by
        rw [hZ, List.getElem?_zip_eq_some]
        exact ⟨hck, List.getElem?_zip_eq_some.mpr ⟨hxk, hyk⟩⟩
      rw [List.take_add_one, hZk, ees]
      unfold fesA
      rw [List.map_append, List.flatten_append]
      show _ = _ ++ ([fesC (kfS ks c) c x y].flatten)
      rw [ekf, List.flatten_cons, List.flatten_nil, List.append_nil]
  intro env M2 w
  obtain ⟨es, t2, t3, t4, t5, rfl, ees, les, rfl⟩ := (hW _ _ _).mp w
  rw [← lZ, List.take_length] at ees
  show N _ _
  subst hN
  walk_at "wq"
  rw [ees]
  exact hp
end
theorem kmin {X : Cx} {K : PySem.W.Frag} (hK : X.K = K) (hc : X.calm = true) : CallR X (.builtin "min") (rMin K) := by
  subst hK
  exact cr_min hc
def kMin : Dat → (Dat → Prop) → Prop
  | .lst xs, P => ∃ ns : List Int, xs = ns.map Dat.int ∧ 0 < ns.length ∧ ∀ m, m ∈ ns → (∀ y, y ∈ ns → m ≤ y) → P (.int m)
  | _, _ => False
theorem u_min {W : Wd} : UOk W Pk (rMin W.K) kMin := fun F H x d Q P ok r q k => by
  cases d with
  | lst xs =>
    obtain ⟨a, vs, rfl, h, _, rr⟩ := r.lst ok
    obtain ⟨ns, rfl, l, q⟩ := q
    have e := rr.ints
    subst e
    exact ⟨a, ns, rfl, SqL.of h, l, fun m h1 h2 => k _ F H _ (q m h1 h2) (.refl ok) (.int _)⟩
  | _ => exact q.elim
section
variable {P : Program} {w : World} {K : PySem.W.Frag} {mg : Str → Option Value} {base : Heap} {ca : Nat → Addr}
def aspLKindsM : ASp := fun ds P => ∃ m : Int, ds = [.pool, .int m] ∧ 1 ≤ m ∧ m ≤ 16 ∧ ∀ ks, KsOk ks → P (.lst (ks.map kdT))
theorem ok_law_kindsM {f : Addr} {fd : FuncData} (F : Fun K "_law_kinds" "_law_kinds" s__law_kinds f fd) (B : Blt mg) (C__law_draw : C8.Cal P w K mg base 1 "_law_draw" (toSp K ca aspDraw) []) : FnOk P w K mg base CX0 2 f fd ["pool", "most"] (toSp K ca aspLKindsM) := by
  refine F.ok sc__law_kinds (fun vs H Q E h => sp_len (n := 2) (fun ds P a => by obtain ⟨_, rfl, _⟩ := a; rfl) h) (fun cdv A outer s H vs Q E hr h => ⟨_, (pss_cons (ps_set (i := 2) sc__law_kinds.nd rfl (.inl rfl) (pe_lst pa_nil))
      (pss_cons (ps_for PassesOwn.never rfl (pi_range1 rfl B.range (pa_cons (pe_op op_add pe_int (C8.pe_c C__law_draw hr (by omega) rfl (pa_cons (pv 0) (pa_cons pe_int pa_nil)))) pa_nil)) (pg_name (i := 3) sc__law_kinds.nd rfl (.inl rfl))
      (pss_cons (ps_setLc (i := 4) (own := [("place", 5)]) (g := gName 5) (tt := tYes) rfl sc__law_kinds.nd rfl rfl (sw_true rfl rfl rfl (by decide +kernel)) (pi_range1 rfl B.range (pa_cons (C8.pe_c C__law_draw hr (by omega) rfl (pa_cons (pv 0) (pa_cons pe_int pa_nil))) pa_nil)) (blkOk_by (N := ["pool", "most", "kinds", "k", "fields", "place"]) (sc := defScope s__law_kinds) (by decide +kernel))
        (fun _ _ _ _ _ => (pg_name (i := 5) sc__law_kinds.nd rfl (.inl rfl))) (fun _ _ _ _ _ => pts_nil)
        (fun _ _ _ _ _ => (pe_tupF (pa_cons (pe_ix ix_str pe_str (pv 5) (fun _ _ => rfl)) (pa_cons (pe_op op_add pe_int (C8.pe_c C__law_draw hr (by omega) rfl (pa_cons (pv 0) (pa_cons (pv 1) pa_nil)))) pa_nil)))))
      (pss_one (ps_expr (pe_bm PySem.F.plainAttrs_list PySem.F.slot_list_append PySem.F.type_list_append mt_append (pv 2) (pa_cons (pe_tupF (pa_cons (pe_ix (kixs (K := K) rfl) (pe_tupF (pa_cons pe_str (pa_cons pe_str pa_nil))) (pv 3) (fun _ _ => rfl)) (pa_cons (pe_callTy (ktupF (K := K) rfl) (by rfl) B.tuple bt_tuple (pa_cons (pv 4) pa_nil)) pa_nil))) pa_nil))))))
      (pss_one (ps_ret (pv 2))))),
    fn_run h (fun po => (s_seq (s_setO fun _ => (a_lst a_nil))
      (s_seq (s_for (vs := [3]) (fun _ => (i_ran1 (a_cons (a_op pst_rv rok_I0 a_int (a_call (a_cons a_var (a_cons a_int a_nil)))) a_nil))) (fun _ => (g_name (by decide)))
      (s_seq (s_set fun _ => (a_fz (a_lc (vs := [5]) (i_ran1 (a_cons (a_call (a_cons a_var (a_cons a_int a_nil))) a_nil)) (g_name (by decide)) a_yes (a_tup (a_cons (a_op pst_rv rok_ixS a_str a_var) (a_cons (a_op pst_rv rok_I0 a_int (a_call (a_cons a_var (a_cons a_var a_nil)))) a_nil))))))
      (s_app fun _ => (a_tup (a_cons (a_op pst_pk rok_ix (a_pk (a_tup (a_cons a_str (a_cons a_str a_nil)))) a_var) (a_cons (a_b1 u_tupOf (a_pk a_var)) a_nil))))))
      (s_fz (i := 2) (s_ret fun _ => a_var))))) (fun ds P a => by obtain ⟨_, rfl, _⟩ := a; exact Nat.le_of_ble_eq_true rfl) ?_⟩)
  rintro ds P ⟨mx, rfl, mx1, mx16, hp⟩
  refine seqG fun N hN => ?_
  walk_at "ds"
  subst hN
  refine seqG fun N hN => ?_
  walk_at "ds"
  refine draw (by omega) (by omega) fun v v0 v1 => ?_
  walk_at "ds"
  refine ⟨by omega, by omega, ?_⟩
  refine forA_ran (fun i env => ∃ (ks : List Kd) (y3 y4 y5 : Sl), env = [.d .pool, .d (.int mx), .o (ks.map kdT), y3, y4, y5] ∧ ks.map (·.1) = [("person" : Str), "club"].take i ∧ ∀ k ∈ ks, k.2.length ≤ 4 ∧ ∀ f ∈ k.2, FdOk f) ⟨[], _, _, _, rfl, rfl, fun _ h => nomatch h⟩ ?_ ?_
  · rintro i env hi ⟨ks, y3, y4, y5, rfl, hn, hf⟩ N2 hN2
    refine seqG fun N3 hN3 => ?_
    walk_at "ds"
    refine draw (by omega) (by omega) fun u u0 u1 => ?_
    walk_at "ds"
    refine ⟨by omega, by omega, by rw [List.length_map, List.length_range]; omega, ?_⟩
    refine lcA_relL (f := fun (i : Nat) => Dat.int (0 + (i : Int))) (fun _ y => ∃ f : Fld, y = fmD f ∧ FdOk f) (fun j hj Q hQ => ?_) fun ys pr => ?_
    · have hj' := List.mem_range.mp hj
      walk_at "ds"
      obtain ⟨c, hc, hs⟩ := abcd_at j (by omega)
      refine ⟨by decide +kernel, c, hc, ?_⟩
      refine draw (by omega) (by omega) fun m m0 m1 => ?_
      walk_at "ds"
      exact hQ _ ⟨(⟨#[c]⟩, 1 + m), rfl, hs, by show 1 ≤ 1 + m; omega, by show 1 + m ≤ 16; omega⟩
    · obtain ⟨fs, rfl, hl, hfs⟩ := fds_of pr
      rw [List.length_range] at hl
      subst hN3
      walk_at "ds"
      have hi2 : i = 0 ∨ i = 1 := by omega
      have kl : ks.length = i := by
        have := congrArg List.length hn
        rw [List.length_map, List.length_take] at this
        rw [this]
        show min i 2 = i
        omega
      refine ⟨by rw [List.length_map]; omega, ?_⟩
      have key : ∀ nm : Str, [("person" : Str), "club"].take (i + 1) = [("person" : Str), "club"].take i ++ [nm] → N2 [Sl.d Dat.pool, Sl.d (Dat.int mx), Sl.o (List.map kdT ks ++ [Dat.tup [.str nm, Dat.tup (List.map fmD fs)]]), Sl.d (Dat.int (0 + ↑i)), Sl.d (Dat.lst (List.map fmD fs)), y5] := fun nm e => by
        refine hN2 _ ⟨ks ++ [(nm, fs)], _, _, _, by rw [List.map_append]; rfl, by rw [List.map_append, hn, e]; rfl, fun k hk => ?_⟩
        rcases List.mem_append.mp hk with hk | hk
        · exact hf k hk
        · obtain rfl := List.mem_singleton.mp hk
          exact ⟨by show fs.length ≤ 4; omega, hfs⟩
      rcases hi2 with rfl | rfl
      · exact key "person" rfl
      · exact key "club" rfl
  · rintro env ⟨ks, y3, y4, y5, rfl, hn, hf⟩
    subst hN
    walk_at "ds"
    have hv : v = 0 ∨ v = 1 := by omega
    refine hp ks ⟨?_, fun k hk => hf k hk⟩
    rcases hv with rfl | rfl
    · exact .inl hn
    · exact .inr hn
end
abbrev s__law_condition : Stmt := top 48
theorem sc__law_condition : FnScope ["pool", "scene", "fields", "names", "size", "both", "way", "numbers", "same", "other", "k", "number"] ["pool", "scene"] (defScope s__law_condition) := ⟨rfl, rfl, rfl, by decide +kernel, rfl, by decide +kernel, by decide +kernel⟩
/-- a condition of a policy -/
inductive Cnd where
  | tell (c f : Str)
  | equal (c f : Str) (n : Int)
  | least (c f : Str) (n : Int)
  | among (c f : Str) (ns : List Int)
  | same (c f c2 f2 : Str)
def cndD : Cnd → Dat
  | .tell c f => .tup [.str "tell", .str c, .str f]
  | .equal c f n => .tup [.str "equal", .str c, .str f, .int n]
  | .least c f n => .tup [.str "least", .str c, .str f, .int n]
  | .among c f ns => .tup [.str "among", .str c, .str f, .tup (ns.map .int)]
  | .same c f c2 f2 => .tup [.str "same", .str c, .str f, .str c2, .str f2]
/-- a condition that both holders meet -/
inductive CndOk (es : List Fe) : Cnd → Prop where
  | tell (e : Fe) (h : e ∈ es) (b : e.b0 = e.b1) : CndOk es (.tell e.cn e.fn)
  | equal (e : Fe) (h : e ∈ es) (b : e.b0 = e.b1) : CndOk es (.equal e.cn e.fn e.b0)
  | least (e : Fe) (h : e ∈ es) (n : Int) (n0 : 0 ≤ n) (h0 : n ≤ e.b0) (h1 : n ≤ e.b1) : CndOk es (.least e.cn e.fn n)
  | among (e : Fe) (h : e ∈ es) (ns : List Int) (l : ns.length ≤ 16) (h0 : e.b0 ∈ ns) (h1 : e.b1 ∈ ns) (r : ∀ n ∈ ns, 0 ≤ n ∧ n < e.sz) : CndOk es (.among e.cn e.fn ns)
  | same (e e2 : Fe) (h : e ∈ es) (h2 : e2 ∈ es) (ne : ¬ (e.cn = e2.cn ∧ e.fn = e2.fn)) (b0 : e.b0 = e2.b0) (b1 : e.b1 = e2.b1) : CndOk es (.same e.cn e.fn e2.cn e2.fn)
section
variable {P : Program} {w : World} {K : PySem.W.Frag} {mg : Str → Option Value} {base : Heap} {ca : Nat → Addr}
def bspLCond : BSp := fun ds M X P => ∃ (a : ScA) (p q s0 s1 : Int) (bs : List Int) (ks : List Kd) (cs : List Cd) (co rows : List Dat) (pk0 pk1 : List Pk3), ds = [.pool, .cell a.d] ∧ ScAt M a p q s0 s1 bs ks cs co rows pk0 pk1 ∧ ((∀ d ∈ co, ∃ xs, d = .tup xs) ∧ (∀ d ∈ rows, ∃ xs, d = .tup xs) ∧ KsOk ks ∧ cs.length ≤ 10 ∧ pk0.length = cs.length ∧ pk1.length = cs.length) ∧
  (∀ (k : Nat) c x y, cs[k]? = some c → pk0[k]? = some x → pk1[k]? = some y → (∃ kf, (c.kn, kf) ∈ ks) ∧ x.vs.length = (kfS ks c).length ∧ y.vs.length = (kfS ks c).length) ∧
  ((fesA ks (cs.zip (pk0.zip pk1))).length ≤ 40 ∧ ∀ e ∈ fesA ks (cs.zip (pk0.zip pk1)), (0 ≤ e.b0 ∧ e.b0 < e.sz) ∧ (0 ≤ e.b1 ∧ e.b1 < e.sz) ∧ e.sz ≤ 16 ∧ PyData.strOk e.cn = true ∧ PyData.strOk e.fn = true) ∧ P .non M ∧ ∀ x, CndOk (fesA ks (cs.zip (pk0.zip pk1))) x → P (cndD x) M
theorem ok_law_condition {f : Addr} {fd : FuncData} (F : Fun K "_law_condition" "_law_condition" s__law_condition f fd) (B : Blt mg) (C__law_draw : C8.Cal P w K mg base 1 "_law_draw" (toSp K ca aspDraw) []) (C__law_fields : C8.Cal P w K mg base 5 "_law_fields" (toSp2 K ca bspLFields) []) : FnOk P w K mg base CX0 7 f fd ["pool", "scene"] (toSp2 K ca bspLCond) := by
  refine F.ok sc__law_condition (fun vs H Q E h => sp_len2 (n := 2) (fun ds M X P a => by obtain ⟨_, _, _, _, _, _, _, _, _, _, _, _, rfl, _⟩ := a; rfl) h) (fun cdv A outer s H vs Q E hr h => ⟨_, (pss_cons (ps_set (i := 2) sc__law_condition.nd rfl (.inl rfl) (C8.pe_c C__law_fields hr (by omega) rfl (pa_cons (pv 1) pa_nil)))
      (pss_cons (ps_if (pt_cmpR op_eq (pe_callB (klen (K := K) rfl) (by rfl) B.len bt_len (pa_cons (pv 2) pa_nil)) pe_int (nomark _)) (pss_one (ps_ret pe_non)) pss_nil)
      (pss_cons (ps_asg (pe_ix (kixs (K := K) rfl) (pv 2) (C8.pe_c C__law_draw hr (by omega) rfl (pa_cons (pv 0) (pa_cons (pe_callB (klen (K := K) rfl) (by rfl) B.len bt_len (pa_cons (pv 2) pa_nil)) pa_nil))) (fun _ _ => rfl)) (kgtup (K := K) (n := 3) rfl rfl (pgs_cons (pg_name (i := 3) sc__law_condition.nd rfl (.inr rfl)) (pgs_cons (pg_name (i := 4) sc__law_condition.nd rfl (.inr rfl)) (pgs_cons (pg_name (i := 5) sc__law_condition.nd rfl (.inr rfl)) pgs_nil)))))
      (pss_cons (ps_set (i := 6) sc__law_condition.nd rfl (.inl rfl) (C8.pe_c C__law_draw hr (by omega) rfl (pa_cons (pv 0) (pa_cons pe_int pa_nil))))
      (pss_cons (ps_if (PW.pt (pw_and (pt_cmpR op_eq (pv 6) pe_int (nomark _)) (pw_and1 (pt_cmpR op_eq (pe_ix (kixs (K := K) rfl) (pv 5) pe_int (fun _ _ => rfl)) (pe_ix (kixs (K := K) rfl) (pv 5) pe_int (fun _ _ => rfl)) (nomark _))))) (pss_one (ps_ret (pe_op (kcatF (K := K) rfl) (pe_tupF (pa_cons pe_str pa_nil)) (pv 3)))) pss_nil)
      (pss_cons (ps_if (PW.pt (pw_and (pt_cmpR op_eq (pv 6) pe_int (nomark _)) (pw_and1 (pt_cmpR op_eq (pe_ix (kixs (K := K) rfl) (pv 5) pe_int (fun _ _ => rfl)) (pe_ix (kixs (K := K) rfl) (pv 5) pe_int (fun _ _ => rfl)) (nomark _))))) (pss_one (ps_ret (pe_op (kcatF (K := K) rfl) (pe_op (kcatF (K := K) rfl) (pe_tupF (pa_cons pe_str pa_nil)) (pv 3)) (pe_tupF (pa_cons (pe_ix (kixs (K := K) rfl) (pv 5) pe_int (fun _ _ => rfl)) pa_nil))))) pss_nil)
      (pss_cons (ps_if (pt_cmpR op_lt (pv 6) pe_int (nomark _)) (pss_one (ps_ret (pe_op (kcatF (K := K) rfl) (pe_op (kcatF (K := K) rfl) (pe_tupF (pa_cons pe_str pa_nil)) (pv 3)) (pe_tupF (pa_cons (C8.pe_c C__law_draw hr (by omega) rfl (pa_cons (pv 0) (pa_cons (pe_op op_add (pe_callB (kmin (K := K) rfl rfl) (by rfl) B.min bt_min (pa_cons (pv 5) pa_nil)) pe_int) pa_nil))) pa_nil))))) pss_nil)
      (pss_cons (ps_if (pt_cmpR op_eq (pv 6) pe_int (nomark _)) (pss_cons (ps_set (i := 7) sc__law_condition.nd rfl (.inr rfl) (pe_op op_cat (pv 5) (pe_lc (own := [("k", 10)]) (g := gName 10) (tt := tYes) rfl sc__law_condition.nd (pi_range1 rfl B.range (pa_cons (C8.pe_c C__law_draw hr (by omega) rfl (pa_cons (pv 0) (pa_cons pe_int pa_nil))) pa_nil)) (blkOk_by (N := ["pool", "scene", "fields", "names", "size", "both", "way", "numbers", "same", "other", "k", "number"]) (sc := defScope s__law_condition) (by decide +kernel))
        (fun _ _ _ _ _ => (pg_name (i := 10) sc__law_condition.nd rfl (.inl rfl))) (fun _ _ _ _ _ => pts_nil)
        (fun _ _ _ _ _ => (C8.pe_c C__law_draw hr (by omega) rfl (pa_cons (pv 0) (pa_cons (pv 4) pa_nil)))))))
      (pss_one (ps_ret (pe_op (kcatF (K := K) rfl) (pe_op (kcatF (K := K) rfl) (pe_tupF (pa_cons pe_str pa_nil)) (pv 3)) (pe_tupF (pa_cons (pe_callTy (ktupF (K := K) rfl) (by rfl) B.tuple bt_tuple (pa_cons (pe_lc (own := [("number", 11)]) (g := gName 11) rfl sc__law_condition.nd (pi_range1 rfl B.range (pa_cons (pv 4) pa_nil)) (blkOk_by (N := ["pool", "scene", "fields", "names", "size", "both", "way", "numbers", "same", "other", "k", "number"]) (sc := defScope s__law_condition) (by decide +kernel))
        (fun _ _ _ _ _ => (pg_name (i := 11) sc__law_condition.nd rfl (.inl rfl))) (fun _ _ _ _ _ => pts_one (pt_cmpR (kin (K := K) rfl) (pv 11) (pv 7) rfl))
        (fun _ _ _ _ _ => (pv 11))) pa_nil)) pa_nil)))))) pss_nil)
      (pss_cons (ps_setLc (i := 8) (own := [("other", 9)]) (g := gName 9) rfl sc__law_condition.nd rfl rfl (sw_true rfl rfl rfl (by decide +kernel)) (kpil (K := K) rfl (pv 2)) (blkOk_by (N := ["pool", "scene", "fields", "names", "size", "both", "way", "numbers", "same", "other", "k", "number"]) (sc := defScope s__law_condition) (by decide +kernel))
        (fun _ _ _ _ _ => (pg_name (i := 9) sc__law_condition.nd rfl (.inl rfl))) (fun _ _ _ _ _ => pts_one (PW.pt (pw_and (pt_cmpR (kned (K := K) rfl hr.units) (pe_ix (kixs (K := K) rfl) (pv 9) pe_int (fun _ _ => rfl)) (pv 3) (nomark _)) (pw_and1 (pt_cmpR (keqd (K := K) rfl hr.units) (pe_ix (kixs (K := K) rfl) (pv 9) pe_int (fun _ _ => rfl)) (pv 5) (nomark _))))))
        (fun _ _ _ _ _ => (pv 9)))
      (pss_cons (ps_if (pt_cmpR op_eq (pe_callB (klen (K := K) rfl) (by rfl) B.len bt_len (pa_cons (pv 8) pa_nil)) pe_int (nomark _)) (pss_one (ps_ret pe_non)) pss_nil)
      (pss_one (ps_ret (pe_op (kcatF (K := K) rfl) (pe_op (kcatF (K := K) rfl) (pe_tupF (pa_cons pe_str pa_nil)) (pv 3)) (pe_ix (kixs (K := K) rfl) (pe_ix (kixs (K := K) rfl) (pv 8) (C8.pe_c C__law_draw hr (by omega) rfl (pa_cons (pv 0) (pa_cons (pe_callB (klen (K := K) rfl) (by rfl) B.len bt_len (pa_cons (pv 8) pa_nil)) pa_nil))) (fun _ _ => rfl)) pe_int (fun _ _ => rfl))))))))))))))),
    fn_run2 h (fun po => (z_seq (z_set fun _ => (b_call2 (b_cons (b_up fun _ => a_var) b_nil)))
      (z_seq (z_if (fun _ => (b_upT fun _ => (a_test (a_op pst_rv rok_eq (a_b1 u_len (a_pk a_var)) a_int)))) (z_ret fun _ => (b_up fun _ => a_non)) z_next)
      (z_seq (z_asg (vs := [3, 4, 5]) (fun _ => (b_up fun _ => (a_op pst_pk rok_ix (a_pk a_var) (a_call (a_cons a_var (a_cons (a_b1 u_len (a_pk a_var)) a_nil)))))) (fun _ => (g_tup (g_cons (g_name (by decide)) (g_cons (g_name (by decide)) (g_cons (g_name (by decide)) g_nil tot_name) tot_name) tot_name))))
      (z_seq (z_set fun _ => (b_up fun _ => (a_call (a_cons a_var (a_cons a_int a_nil)))))
      (z_seq (z_if (fun _ => (b_upT fun _ => (a_and (a_test (a_op pst_rv rok_eq a_var a_int)) (a_test (a_op pst_rv rok_eq (a_op pst_pk rok_ix (a_pk a_var) a_int) (a_op pst_pk rok_ix (a_pk a_var) a_int)))))) (z_ret fun _ => (b_up fun _ => (a_op pst_rv rok_catT (a_tup (a_cons a_str a_nil)) a_var))) z_next)
      (z_seq (z_if (fun _ => (b_upT fun _ => (a_and (a_test (a_op pst_rv rok_eq a_var a_int)) (a_test (a_op pst_rv rok_eq (a_op pst_pk rok_ix (a_pk a_var) a_int) (a_op pst_pk rok_ix (a_pk a_var) a_int)))))) (z_ret fun _ => (b_up fun _ => (a_op pst_rv rok_catT (a_op pst_rv rok_catT (a_tup (a_cons a_str a_nil)) a_var) (a_tup (a_cons (a_op pst_pk rok_ix (a_pk a_var) a_int) a_nil))))) z_next)
      (z_seq (z_if (fun _ => (b_upT fun _ => (a_test (a_op pst_rv rok_B0 a_var a_int)))) (z_ret fun _ => (b_up fun _ => (a_op pst_rv rok_catT (a_op pst_rv rok_catT (a_tup (a_cons a_str a_nil)) a_var) (a_tup (a_cons (a_call (a_cons a_var (a_cons (a_op pst_rv rok_I0 (a_b1 u_min (a_pk a_var)) a_int) a_nil))) a_nil))))) z_next)
      (z_seq (z_if (fun _ => (b_upT fun _ => (a_test (a_op pst_rv rok_eq a_var a_int)))) (z_seq (z_set fun _ => (b_up fun _ => (a_fz (a_opF pst_pk rok_catL (a_pk a_var) (a_pk (a_fz (a_lc (vs := [10]) (i_ran1 (a_cons (a_call (a_cons a_var (a_cons a_int a_nil))) a_nil)) (g_name (by decide)) a_yes (a_call (a_cons a_var (a_cons a_var a_nil))))))))))
      (z_ret fun _ => (b_up fun _ => (a_op pst_rv rok_catT (a_op pst_rv rok_catT (a_tup (a_cons a_str a_nil)) a_var) (a_tup (a_cons (a_b1 u_tupOf (a_pk (a_fz (a_lc (vs := [11]) (i_ran1 (a_cons a_var a_nil)) (g_name (by decide)) (a_test (a_op pst_rv rok_in a_var (a_pk a_var))) a_var)))) a_nil)))))) z_next)
      (z_seq (z_set fun _ => (b_up fun _ => (a_fz (a_lc (vs := [9]) (i_list a_var) (g_name (by decide)) (a_and (a_test (a_op pst_pk rok_neD (a_pk (a_op pst_pk rok_ix (a_pk a_var) a_int)) (a_pk a_var))) (a_test (a_op pst_pk rok_eqD (a_pk (a_op pst_pk rok_ix (a_pk a_var) a_int)) (a_pk a_var)))) a_var))))
      (z_seq (z_if (fun _ => (b_upT fun _ => (a_test (a_op pst_rv rok_eq (a_b1 u_len (a_pk a_var)) a_int)))) (z_ret fun _ => (b_up fun _ => a_non)) z_next)
      (z_ret fun _ => (b_up fun _ => (a_op pst_rv rok_catT (a_op pst_rv rok_catT (a_tup (a_cons a_str a_nil)) a_var) (a_op pst_pk rok_ix (a_pk (a_op pst_pk rok_ix (a_pk a_var) (a_call (a_cons a_var (a_cons (a_b1 u_len (a_pk a_var)) a_nil))))) a_int))))))))))))))) (fun ds M X P a => by obtain ⟨_, _, _, _, _, _, _, _, _, _, _, _, rfl, _⟩ := a; exact Nat.le_of_ble_eq_true rfl) ?_⟩)
  rintro ds M X P ⟨a, p, q, s0, s1, bs, ks, cs, co, rows, pk0, pk1, rfl, hs, hh, hk, ⟨le, he⟩, hp0, hp⟩
  refine zseqG fun N hN => ?_
  walk_at "wq"
  refine ⟨a, p, q, s0, s1, bs, ks, cs, co, rows, pk0, pk1, rfl, hs, hh, hk, ?_⟩
  obtain ⟨es, hes⟩ : ∃ es, es = fesA ks (cs.zip (pk0.zip pk1)) := ⟨_, rfl⟩
  rw [← hes] at le he hp ⊢
  clear hes
  subst hN
  refine zseqG fun N hN => ?_
  walk_at "wq"
  rw [List.length_map]
  refine twoD (fun _ => hp0) (fun ne => ?_)
  subst hN
  refine zseqG fun N hN => ?_
  walk_at "wq"
  rw [List.length_map]
  refine draw (by omega) (by omega) fun u u0 u1 => ?_
  refine oa_any u0 u1 fun e hme => ?_
  have hee := he e hme
  unfold feD
  walk_at "wq"
  subst hN
  refine zseqG fun N hN => ?_
  walk_at "wq"
  refine draw (by omega) (by omega) fun way w0 w1 => ?_
  subst hN
  refine zseqG fun N hN => ?_
  walk_at "wq"
  obtain ⟨env, henv⟩ : ∃ env, env = [Sl.d .pool, Sl.d (.cell a.d), Sl.d (.lst (es.map feD)), Sl.d (.tup [.str e.cn, .str e.fn]), Sl.d (.int e.sz), Sl.d (.lst [.int e.b0, .int e.b1]), Sl.d (.int way), Sl.u, Sl.u, Sl.u, Sl.u, Sl.u] := ⟨_, rfl⟩
  have stay : N env M → two (decide (way = 0)) (two (decide (e.b0 = e.b1)) (3 ≤ 100000 ∧ P (.tup [.str "tell", .str e.cn, .str e.fn]) M) (N env M)) (N env M) := fun h => by
    refine twoD (fun _ => ?_) (fun _ => h)
    exact twoD (fun eb => ⟨by omega, hp _ (.tell e hme eb)⟩) (fun _ => h)
  rw [henv] at stay
  refine stay ?_
  clear stay
  subst hN
  refine zseqG fun N hN => ?_
  walk_at "wq"
  have stay : N env M → two (decide (way = 1)) (two (decide (e.b0 = e.b1)) (3 ≤ 100000 ∧ 4 ≤ 100000 ∧ P (.tup [.str "equal", .str e.cn, .str e.fn, .int e.b0]) M) (N env M)) (N env M) := fun h => by
    refine twoD (fun _ => ?_) (fun _ => h)
    exact twoD (fun eb => ⟨by omega, by omega, hp _ (.equal e hme eb)⟩) (fun _ => h)
  rw [henv] at stay
  refine stay ?_
  clear stay
  subst hN
  refine zseqG fun N hN => ?_
  walk_at "wq"
  refine twoD (fun _ => ?_) (fun _ => ?_)
  · refine ⟨by omega, [e.b0, e.b1], rfl, Nat.le_of_ble_eq_true rfl, fun m hm hle => ?_⟩
    have h0 := hle e.b0 List.mem_cons_self
    have h1 := hle e.b1 (List.mem_cons_of_mem _ List.mem_cons_self)
    have m0 : 0 ≤ m := by
      rcases List.mem_cons.mp hm with rfl | hm
      · omega
      · obtain rfl := List.mem_singleton.mp hm
        omega
    walk_at "wq"
    refine draw (by omega) (by omega) fun n n0 n1 => ?_
    walk_at "wq"
    exact ⟨by omega, hp _ (.least e hme n n0 (by omega) (by omega))⟩
  subst hN
  refine zseqG fun N hN => ?_
  walk_at "wq"
  refine twoD (fun _ => ?_) (fun _ => ?_)
  · refine zseqG fun N2 hN2 => ?_
    walk_at "wq"
    refine draw (by omega) (by omega) fun cn cn0 cn1 => ?_
    walk_at "wq"
    refine ⟨by omega, by omega, by rw [List.length_map, List.length_range]; omega, lcA_relL (f := fun (i : Nat) => Dat.int (0 + (i : Int))) (fun _ y => ∃ n, y = Dat.int n ∧ 0 ≤ n ∧ n < e.sz) (fun i hi Q hQ => ?_) fun ys pr => ?_⟩
    · walk_at "dw"
      refine draw (by omega) (by omega) fun v v0 v1 => hQ _ ⟨v, rfl, v0, v1⟩
    obtain ⟨ys, rfl, _, pr⟩ := paired_ints pr
    have ly := prd_len pr
    rw [List.length_range] at ly
    rw [List.length_map]
    refine ⟨by omega, ?_⟩
    subst hN2
    walk_at "wq"
    refine ⟨by omega, by omega, by omega, by rw [List.length_map, List.length_range]; omega, ?_⟩
    obtain ⟨nu, hnu⟩ : ∃ nu : List Int, nu = e.b0 :: e.b1 :: ys := ⟨_, rfl⟩
    rw [show Dat.int e.b0 :: Dat.int e.b1 :: ys.map Dat.int = nu.map Dat.int by rw [hnu]; rfl]
    refine lcA_filL (f := fun (i : Nat) => Dat.int (0 + (i : Int))) (g := fun (i : Nat) => Dat.int (i : Int)) (fun i => decide ((i : Int) ∈ nu)) (fun i hi Q q1 q2 => ?_) ?_
    · rw [Int.zero_add]
      walk_at "dw"
      refine kIn_i ?_
      rw [if_neg (by decide)]
      exact twoD (fun z => q1 (decide_eq_true z)) (fun z => q2 (decide_eq_false z))
    refine ⟨by omega, ?_⟩
    rw [show (fun (i : Nat) => Dat.int (i : Int)) = Dat.int ∘ fun (i : Nat) => (i : Int) from rfl, ← List.map_map]
    obtain ⟨sz, hsz⟩ : ∃ n : Nat, e.sz = n := ⟨e.sz.toNat, by omega⟩
    have mem : ∀ b : Int, 0 ≤ b → b < e.sz → b ∈ nu → b ∈ ((List.range e.sz.toNat).filter fun (i : Nat) => decide ((i : Int) ∈ nu)).map fun (i : Nat) => (i : Int) := fun b h0 h1 hm => by
      refine List.mem_map.mpr ⟨b.toNat, List.mem_filter.mpr ⟨List.mem_range.mpr (by omega), decide_eq_true ?_⟩, by omega⟩
      rw [show ((b.toNat : Nat) : Int) = b by omega]
      exact hm
    refine hp _ (.among e hme _ ?_ (mem _ hee.1.1 hee.1.2 (by rw [hnu]; exact List.mem_cons_self)) (mem _ hee.2.1.1 hee.2.1.2 (by rw [hnu]; exact List.mem_cons_of_mem _ List.mem_cons_self)) fun n hn => ?_)
    · have := List.length_filter_le (fun (i : Nat) => decide ((i : Int) ∈ nu)) (List.range e.sz.toNat)
      rw [List.length_range] at this
      rw [List.length_map]
      omega
    · obtain ⟨i, hi, rfl⟩ := List.mem_map.mp hn
      have := List.mem_range.mp (List.mem_filter.mp hi).1
      omega
  subst hN
  refine zseqG fun N hN => ?_
  walk_at "wq"
  refine ⟨by rw [List.length_map]; omega, ?_⟩
  have o2 : ∀ x y : Str, PyData.strOk x = true → PyData.strOk y = true → okE 64 (.tup [.str x, .str y]) := fun x y h1 h2 => (okE_tup (n := 0) (okE_two (okE_str h1 _) (okE_str h2 _))).up (Nat.le_of_ble_eq_true rfl)
  have oi : ∀ x y : Int, okE 64 (.lst [.int x, .int y]) := fun x y => (okE_lst (n := 0) (okE_two (okE_int _ _) (okE_int _ _))).up (Nat.le_of_ble_eq_true rfl)
  refine lcA_filL (g := feD) (fun x => decide (¬ (x.cn = e.cn ∧ x.fn = e.fn)) && decide (x.b0 = e.b0 ∧ x.b1 = e.b1)) (fun x hx Q q1 q2 => ?_) ?_
  · have hxx := he x hx
    unfold feD at q1 ⊢
    walk_at "dw"
    refine ⟨o2 _ _ hxx.2.2.2.1 hxx.2.2.2.2, o2 _ _ hee.2.2.2.1 hee.2.2.2.2, fun b hb => ?_⟩
    rw [Dat.tup.injEq, List.cons.injEq, List.cons.injEq, Dat.str.injEq, Dat.str.injEq] at hb
    cases b with
    | true =>
      have z := hb.mp rfl
      walk_at "dw"
      exact q2 (by rw [decide_eq_false (fun h => h ⟨z.1, z.2.1⟩)]; rfl)
    | false =>
      walk_at "dw"
      have z : ¬ (x.cn = e.cn ∧ x.fn = e.fn) := fun h => absurd (hb.mpr ⟨h.1, h.2, rfl⟩) (by decide)
      refine ⟨oi _ _, oi _ _, fun b hb => ?_⟩
      rw [Dat.lst.injEq, List.cons.injEq, List.cons.injEq, Dat.int.injEq, Dat.int.injEq] at hb
      cases b with
      | true =>
        have y := hb.mp rfl
        exact q1 (by rw [decide_eq_true z, decide_eq_true ⟨y.1, y.2.1⟩]; rfl)
      | false => exact q2 (by rw [decide_eq_false (fun h : x.b0 = e.b0 ∧ x.b1 = e.b1 => absurd (hb.mpr ⟨h.1, h.2, rfl⟩) (by decide)), Bool.and_false])
  obtain ⟨sm, hsm⟩ : ∃ sm, sm = es.filter (fun x => decide (¬ (x.cn = e.cn ∧ x.fn = e.fn)) && decide (x.b0 = e.b0 ∧ x.b1 = e.b1)) := ⟨_, rfl⟩
  rw [← hsm]
  have msm : ∀ x ∈ sm, x ∈ es ∧ ¬ (x.cn = e.cn ∧ x.fn = e.fn) ∧ x.b0 = e.b0 ∧ x.b1 = e.b1 := fun x hx => by
    rw [hsm, List.mem_filter, Bool.and_eq_true] at hx
    exact ⟨hx.1, of_decide_eq_true hx.2.1, of_decide_eq_true hx.2.2⟩
  have lsm : sm.length ≤ 40 := by
    have := List.length_filter_le (fun x : Fe => decide (¬ (x.cn = e.cn ∧ x.fn = e.fn)) && decide (x.b0 = e.b0 ∧ x.b1 = e.b1)) es
    rw [hsm]
    omega
  clear hsm
  subst hN
  refine zseqG fun N hN => ?_
  walk_at "wq"
  rw [List.length_map]
  refine twoD (fun _ => hp0) (fun ne2 => ?_)
  subst hN
  walk_at "wq"
  rw [List.length_map]
  refine ⟨by omega, ?_⟩
  refine draw (by omega) (by omega) fun y y0 y1 => ?_
  refine oa_any y0 y1 fun x hx => ?_
  obtain ⟨m1, m2, m3, m4⟩ := msm x hx
  unfold feD
  walk_at "wq"
  exact ⟨by omega, hp _ (.same e x hme m1 (fun h => m2 ⟨h.1.symm, h.2.symm⟩) m3.symm m4.symm)⟩
end
abbrev s__law_scene : Stmt := top 45
theorem sc__law_scene : FnScope ["pool", "cards", "most", "group", "kinds", "scene", "k", "kind", "fields", "issuers", "rows", "turn", "found", "conditions"] ["pool", "cards", "most"] (defScope s__law_scene) := ⟨rfl, rfl, rfl, by decide +kernel, rfl, by decide +kernel, by decide +kernel⟩
/-- a scene -/
structure Sc where
  p : Int
  q : Int
  bs : List Int
  ks : List Kd
  cs : List Cd
  co : List Cnd
  rows : List (List (Str × Int × Int))
  pk0 : List Pk3
  pk1 : List Pk3
  s0 : Int
  s1 : Int
def scnD (s : Sc) : Dat := .dK (scD s.p s.q s.s0 s.s1 s.bs s.ks s.cs (s.co.map cndD) (s.rows.map fun r => .tup (r.map rw3D)) s.pk0 s.pk1)
structure ScOk (cm mm : Nat) (s : Sc) : Prop where
  gk : GOk s.p s.q s.bs
  l6 : 6 ≤ s.bs.length
  qm : s.q < 100000
  kok : KsOk s.ks
  lc : 1 ≤ s.cs.length ∧ s.cs.length ≤ cm
  lo : s.co.length ≤ mm
  lr : s.rows.length = s.cs.length
  l0 : s.pk0.length = s.cs.length
  l1 : s.pk1.length = s.cs.length
  h0 : 0 ≤ s.s0 ∧ s.s0 < s.q
  h1 : 0 ≤ s.s1 ∧ s.s1 < s.q
  cd : ∀ c ∈ s.cs, CdOk c ∧ (∃ kf, (c.kn, kf) ∈ s.ks) ∧ 1 ≤ c.is.length ∧ c.is.length ≤ 3
  nd : (s.cs.map (·.nm)).Nodup
  at_ : ∀ (k : Nat) c r x y, s.cs[k]? = some c → s.rows[k]? = some r → s.pk0[k]? = some x → s.pk1[k]? = some y → PkOk s.q (kfS s.ks c) x ∧ PkOk s.q (kfS s.ks c) y ∧ RwsOk s.p s.q s.bs c.is s.s0 s.s1 r x y
  cn : ∀ x ∈ s.co, CndOk (fesA s.ks (s.cs.zip (s.pk0.zip s.pk1))) x
theorem sk_cards {a : ScA} {p q s0 s1 : Int} {bs : List Int} {ks : List Kd} : dgetD (scK a p q bs ks s0 s1) (.inr "cards") = some (.cell a.ca) := by unfold scK; simp only [dg_c, ofS_inj, Sum.inr.injEq, String.reduceEq, reduceIte]
theorem sk_conds {a : ScA} {p q s0 s1 : Int} {bs : List Int} {ks : List Kd} : dgetD (scK a p q bs ks s0 s1) (.inr "conditions") = some (.cell a.co) := by unfold scK; simp only [dg_c, ofS_inj, Sum.inr.injEq, String.reduceEq, reduceIte]
def mowN : List Str := ["m", "o", "w"]
theorem mow_at : ∀ k : Nat, k < 3 → ∃ c, atI (Str.ofString "mow").cps.toList (0 + (k : Int)) = some c ∧ mowN[k]? = some ⟨#[c]⟩ ∧ PyData.strOk ⟨#[c]⟩ = true
  | 0, _ => ⟨109, by decide +kernel, by decide +kernel, by decide +kernel⟩
  | 1, _ => ⟨111, by decide +kernel, by decide +kernel, by decide +kernel⟩
  | 2, _ => ⟨119, by decide +kernel, by decide +kernel, by decide +kernel⟩
  | _ + 3, h => by omega
theorem prd_get {α β : Type} {R : α → β → Prop} : ∀ {xs : List α} {ys : List β} {j : Nat} {x : α} {y : β}, Paired R xs ys → xs[j]? = some x → ys[j]? = some y → R x y
  | _, _, _, _, _, .nil, e, _ => by simp at e
  | _, _, 0, _, _, .cons a _, e1, e2 => by
    rw [List.getElem?_cons_zero] at e1 e2
    cases e1
    cases e2
    exact a
  | _, _, j + 1, _, _, .cons _ r, e1, e2 => by
    rw [List.getElem?_cons_succ] at e1 e2
    exact prd_get r e1 e2
theorem mem_fes {ks : List Kd} {zs : List (Cd × Pk3 × Pk3)} {e : Fe} (h : e ∈ fesA ks zs) : ∃ z ∈ zs, ∃ (j : Nat) (f : Fld) (v0 v1 : Int), (kfS ks z.1)[j]? = some f ∧ z.2.1.vs[j]? = some v0 ∧ z.2.2.vs[j]? = some v1 ∧ e = ⟨z.1.nm, f.1, f.2, v0, v1⟩ := by
  unfold fesA at h
  obtain ⟨l, hl, he⟩ := List.mem_flatten.mp h
  obtain ⟨z, hz, rfl⟩ := List.mem_map.mp hl
  unfold fesC at he
  obtain ⟨⟨f, v0, v1⟩, hm, rfl⟩ := List.mem_map.mp he
  obtain ⟨j, hj⟩ := List.mem_iff_getElem?.mp hm
  rw [List.getElem?_zip_eq_some] at hj
  obtain ⟨h1, h2⟩ := hj
  rw [List.getElem?_zip_eq_some] at h2
  exact ⟨z, hz, j, f, v0, v1, h1, h2.1, h2.2, rfl⟩
theorem flat_le {α : Type} {m : Nat} : ∀ {xs : List (List α)}, (∀ x ∈ xs, x.length ≤ m) → xs.flatten.length ≤ m * xs.length
  | [], _ => Nat.zero_le _
  | x :: xs, h => by
    have h1 := h x List.mem_cons_self
    have h2 := flat_le (xs := xs) fun y hy => h y (List.mem_cons_of_mem _ hy)
    rw [List.flatten_cons, List.length_append, List.length_cons, Nat.mul_add, Nat.mul_one]
    omega
theorem fes_ok {q : Int} {ks : List Kd} {cs : List Cd} {pk0 pk1 : List Pk3} (kok : KsOk ks) (lc : cs.length ≤ 3) (l0 : pk0.length = cs.length) (l1 : pk1.length = cs.length) (hcs : ∀ c ∈ cs, CdOk c ∧ ∃ kf, (c.kn, kf) ∈ ks)
    (hk : ∀ (k : Nat) c x y, cs[k]? = some c → pk0[k]? = some x → pk1[k]? = some y → PkOk q (kfS ks c) x ∧ PkOk q (kfS ks c) y) :
    (fesA ks (cs.zip (pk0.zip pk1))).length ≤ 40 ∧ ∀ e ∈ fesA ks (cs.zip (pk0.zip pk1)), (0 ≤ e.b0 ∧ e.b0 < e.sz) ∧ (0 ≤ e.b1 ∧ e.b1 < e.sz) ∧ e.sz ≤ 16 ∧ PyData.strOk e.cn = true ∧ PyData.strOk e.fn = true := by
  have key : ∀ z ∈ cs.zip (pk0.zip pk1), ∃ k : Nat, cs[k]? = some z.1 ∧ pk0[k]? = some z.2.1 ∧ pk1[k]? = some z.2.2 := fun z hz => by
    obtain ⟨k, hk⟩ := List.mem_iff_getElem?.mp hz
    rw [List.getElem?_zip_eq_some] at hk
    obtain ⟨h1, h2⟩ := hk
    rw [List.getElem?_zip_eq_some] at h2
    exact ⟨k, h1, h2.1, h2.2⟩
  have kfs : ∀ c ∈ cs, (c.kn, kfS ks c) ∈ ks := fun c hc => by
    obtain ⟨_, kf, mk⟩ := hcs c hc
    unfold kfS
    rw [lkK_of kok mk]
    exact mk
  constructor
  · have h1 : (fesA ks (cs.zip (pk0.zip pk1))).length ≤ 4 * ((cs.zip (pk0.zip pk1)).map fun z => fesC (kfS ks z.1) z.1 z.2.1 z.2.2).length := by
      unfold fesA
      refine flat_le fun x hx => ?_
      obtain ⟨z, hz, rfl⟩ := List.mem_map.mp hx
      obtain ⟨k, h1, h2, h3⟩ := key z hz
      unfold fesC
      rw [List.length_map, List.length_zip]
      have := (kok.fs _ (kfs z.1 (List.mem_of_getElem? h1))).1
      have h4 : (kfS ks z.1).length ≤ 4 := this
      omega
    rw [List.length_map, List.length_zip, List.length_zip] at h1
    omega
  · intro e he
    obtain ⟨z, hz, j, f, v0, v1, h1, h2, h3, rfl⟩ := mem_fes he
    obtain ⟨k, g1, g2, g3⟩ := key z hz
    obtain ⟨a, b⟩ := hk k _ _ _ g1 g2 g3
    have mf := (kok.fs _ (kfs z.1 (List.mem_of_getElem? g1))).2 f (List.mem_of_getElem? h1)
    have ra : 0 ≤ v0 ∧ v0 < f.2 := prd_get (R := fun (f : Fld) v => 0 ≤ v ∧ v < f.2) a.rg h1 h2
    have rb : 0 ≤ v1 ∧ v1 < f.2 := prd_get (R := fun (f : Fld) v => 0 ≤ v ∧ v < f.2) b.rg h1 h3
    refine ⟨ra, rb, mf.2.2, (hcs _ (List.mem_of_getElem? g1)).1.1, ?_⟩
    show PyData.strOk f.1 = true
    rcases mf.1 with e | e | e | e <;> rw [e] <;> decide +kernel
theorem ScAt.vx {a : ScA} {M : Sto} {p q s0 s1 : Int} {bs : List Int} {ks : List Kd} {cs : List Cd} {co : List Cnd} {rows : List (List (Str × Int × Int))} {pk0 pk1 : List Pk3} (h : ScAt M a p q s0 s1 bs ks cs (co.map cndD) (rows.map fun r => .tup (r.map rw3D)) pk0 pk1) :
    vwX 4 M (.cell a.d) = .dK (scD p q s0 s1 bs ks cs (co.map cndD) (rows.map fun r => .tup (r.map rw3D)) pk0 pk1) := by
  rw [vx_dK h.hd]
  unfold scK scD
  simp only [List.map_cons, List.map_nil]
  have ni : ∀ xs : List Int, ncAll (xs.map Dat.int) = true := fun xs => ncAll_map fun _ _ => rfl
  have nst : ∀ xs : List Str, ncAll (xs.map Dat.str) = true := fun xs => ncAll_map fun _ _ => rfl
  have e1 : vwX 3 M (.cell a.ca) = .lst (cs.map cdD) := by
    rw [vx_lst h.hca, vx_ncA (ncAll_map fun c _ => ?_)]
    show (true && (true && (ncAll (c.is.map Dat.str) && true))) = true
    rw [nst]
    rfl
  have e2 : vwX 3 M (.cell a.co) = .lst (co.map cndD) := by
    rw [vx_lst h.hco, vx_ncA (ncAll_map fun c _ => ?_)]
    cases c with
    | among c f ns =>
      show (true && (true && (true && (ncAll (ns.map Dat.int) && true)))) = true
      rw [ni]
      rfl
    | _ => rfl
  have e3 : vwX 3 M (.cell a.ro) = .lst (rows.map fun r => .tup (r.map rw3D)) := by
    rw [vx_lst h.hro, vx_ncA (ncAll_map fun r _ => ?_)]
    exact ncAll_map (f := rw3D) fun _ _ => rfl
  have ep : ∀ ps : List Pk3, ncAll (ps.map pk3D) = true := fun ps => ncAll_map fun x _ => by
    show (true && (true && (ncAll (x.vs.map Dat.int) && true))) = true
    rw [ni]
    rfl
  have e4 : vwX 3 M (.cell a.pi) = .lst [.lst (pk0.map pk3D), .lst (pk1.map pk3D)] := by
    rw [vx_lst h.hpi, List.map_cons, List.map_cons, List.map_nil, vx_lst h.hp0, vx_lst h.hp1, vx_ncA (ep _), vx_ncA (ep _)]
  have e5 : vwX 3 M (lgD p q bs) = lgD p q bs := vx_nc (by
    show (true && (true && (ncAll (bs.map Dat.int) && true))) = true
    rw [ni]
    rfl)
  have e6 : vwX 3 M (.lst (ks.map kdT)) = .lst (ks.map kdT) := vx_nc (ncAll_map fun k _ => by
    show (true && (ncAll (k.2.map fmD) && true)) = true
    rw [ncAll_map (f := fmD) fun _ _ => rfl]
    rfl)
  have e7 : vwX 3 M (.lst [.int s0, .int s1]) = .lst [.int s0, .int s1] := vx_nc rfl
  rw [e1, e2, e3, e4, e5, e6, e7]
theorem put_none {M : Sto} {a b : Addr} {c : Ce} (h : (M.put a (some c)) b = none) : b ≠ a ∧ M b = none := by
  by_cases z : b = a
  · rw [z, Sto.put_s] at h
    cases h
  · rw [Sto.put_n z] at h
    exact ⟨z, h⟩
section
variable {P : Program} {w : World} {K : PySem.W.Frag} {mg : Str → Option Value} {base : Heap} {ca : Nat → Addr}
def aspLScene : ASp := fun ds P => ∃ (cm mm : Nat), ds = [.pool, .int cm, .int mm] ∧ (1 ≤ cm ∧ cm ≤ 3 ∧ mm ≤ 10) ∧ ∀ s, ScOk cm mm s → P (scnD s)
theorem ok_law_scene {f : Addr} {fd : FuncData} (F : Fun K "_law_scene" "_law_scene" s__law_scene f fd) (B : Blt mg) (C__law_draw : C8.Cal P w K mg base 1 "_law_draw" (toSp K ca aspDraw) []) (C__law_numbers : C8.Cal P w K mg base 2 "_law_numbers" (toSp K ca aspLNumbers) []) (C__law_group : C8.Cal P w K mg base 2 "_law_group" (toSp K ca aspLGroup) []) (C__law_kinds : C8.Cal P w K mg base 2 "_law_kinds" (toSp K ca aspLKindsM) []) (C__law_rows : C8.Cal P w K mg base 5 "_law_rows" (toSp2 K ca bspLRows) []) (C__law_condition : C8.Cal P w K mg base 7 "_law_condition" (toSp2 K ca bspLCond) []) : FnOk P w K mg base CX0 9 f fd ["pool", "cards", "most"] (toSp K ca aspLScene) := by
  refine F.ok sc__law_scene (fun vs H Q E h => sp_len (n := 3) (fun ds P a => by obtain ⟨_, _, rfl, _⟩ := a; rfl) h) (fun cdv A outer s H vs Q E hr h => ⟨_, (pss_cons (ps_set (i := 3) sc__law_scene.nd rfl (.inl rfl) (C8.pe_c C__law_group hr (by omega) rfl (pa_cons (pv 0) (pa_cons (pe_op op_add pe_int (C8.pe_c C__law_draw hr (by omega) rfl (pa_cons (pv 0) (pa_cons pe_int pa_nil)))) (pa_cons pe_int pa_nil)))))
      (pss_cons (ps_set (i := 4) sc__law_scene.nd rfl (.inl rfl) (C8.pe_c C__law_kinds hr (by omega) rfl (pa_cons (pv 0) (pa_cons (pe_ix (kixs (K := K) rfl) (pe_tupF (pa_cons pe_int (pa_cons pe_int (pa_cons pe_int (pa_cons pe_int pa_nil))))) (C8.pe_c C__law_draw hr (by omega) rfl (pa_cons (pv 0) (pa_cons pe_int pa_nil))) (fun _ _ => rfl)) pa_nil))))
      (pss_cons (ps_set (i := 5) sc__law_scene.nd rfl (.inl rfl) (pe_disp (pps_cons pe_str (pv 3) (pps_cons pe_str (pv 4) (pps_cons pe_str (pe_lst pa_nil) (pps_cons pe_str (pe_lst pa_nil) (pps_cons pe_str (pe_lst pa_nil) (pps_cons pe_str (pe_lst (pa_cons (pe_lst pa_nil) (pa_cons (pe_lst pa_nil) pa_nil))) pps_nil)))))) (by rfl) (by rfl) (fun z => nomatch z) (by decide)))
      (pss_cons (ps_dput (hu_of hr) (pv 5) pe_str (C8.pe_c C__law_numbers hr (by omega) rfl (pa_cons (pv 0) (pa_cons (pv 3) (pa_cons pe_int pa_nil)))) (by rfl))
      (pss_cons (ps_for PassesOwn.never rfl (pi_range1 rfl B.range (pa_cons (pe_op op_add pe_int (C8.pe_c C__law_draw hr (by omega) rfl (pa_cons (pv 0) (pa_cons (pv 1) pa_nil)))) pa_nil)) (pg_name (i := 6) sc__law_scene.nd rfl (.inl rfl))
      (pss_cons (ps_asg (pe_ix (kixs (K := K) rfl) (pv 4) (C8.pe_c C__law_draw hr (by omega) rfl (pa_cons (pv 0) (pa_cons (pe_callB (klen (K := K) rfl) (by rfl) B.len bt_len (pa_cons (pv 4) pa_nil)) pa_nil))) (fun _ _ => rfl)) (kgtup (K := K) (n := 2) rfl rfl (pgs_cons (pg_name (i := 7) sc__law_scene.nd rfl (.inl rfl)) (pgs_cons (pg_name (i := 8) sc__law_scene.nd rfl (.inl rfl)) pgs_nil))))
      (pss_cons (ps_set (i := 9) sc__law_scene.nd rfl (.inl rfl) (pe_ix (kixs (K := K) rfl) (pe_lst (pa_cons (pe_tupF (pa_cons pe_str pa_nil)) (pa_cons (pe_tupF (pa_cons pe_str (pa_cons pe_str pa_nil))) (pa_cons (pe_tupF (pa_cons pe_str (pa_cons pe_str (pa_cons pe_str pa_nil)))) pa_nil)))) (C8.pe_c C__law_draw hr (by omega) rfl (pa_cons (pv 0) (pa_cons pe_int pa_nil))) (fun _ _ => rfl)))
      (pss_cons (ps_set (i := 10) sc__law_scene.nd rfl (.inl rfl) (pe_dget (hu_of hr) (pv 5) pe_str (fun _ _ => rfl)))
      (pss_cons (ps_expr (pe_bm PySem.F.plainAttrs_list PySem.F.slot_list_append PySem.F.type_list_append mt_append (pv 10) (pa_cons (pe_tupF (pa_cons (pe_ix ix_str pe_str (pv 6) (fun _ _ => rfl)) (pa_cons (pv 7) (pa_cons (pv 9) pa_nil)))) pa_nil)))
      (pss_one (ps_expr (C8.pe_c C__law_rows hr (by omega) rfl (pa_cons (pv 0) (pa_cons (pv 5) (pa_cons (pv 8) (pa_cons (pv 9) pa_nil))))))))))))
      (pss_cons (ps_for PassesOwn.never rfl (pi_range1 rfl B.range (pa_cons (C8.pe_c C__law_draw hr (by omega) rfl (pa_cons (pv 0) (pa_cons (pe_op op_add (pv 2) pe_int) pa_nil))) pa_nil)) (pg_name (i := 11) sc__law_scene.nd rfl (.inl rfl))
      (pss_cons (ps_set (i := 12) sc__law_scene.nd rfl (.inl rfl) (C8.pe_c C__law_condition hr (by omega) rfl (pa_cons (pv 0) (pa_cons (pv 5) pa_nil))))
      (pss_cons (ps_set (i := 13) sc__law_scene.nd rfl (.inl rfl) (pe_dget (hu_of hr) (pv 5) pe_str (fun _ _ => rfl)))
      (pss_one (ps_if (pt_cmpR op_notN (pv 12) pe_non (nomark _)) (pss_one (ps_expr (pe_bm PySem.F.plainAttrs_list PySem.F.slot_list_append PySem.F.type_list_append mt_append (pv 13) (pa_cons (pv 12) pa_nil)))) pss_nil)))))
      (pss_one (ps_ret (pv 5))))))))),
    fn_run1 h (fun po => (z_seq (z_set fun _ => (b_up fun _ => (a_call (a_cons a_var (a_cons (a_op pst_rv rok_I0 a_int (a_call (a_cons a_var (a_cons a_int a_nil)))) (a_cons a_int a_nil))))))
      (z_seq (z_set fun _ => (b_up fun _ => (a_call (a_cons a_var (a_cons (a_op pst_pk rok_ix (a_pk (a_tup (a_cons a_int (a_cons a_int (a_cons a_int (a_cons a_int a_nil)))))) (a_call (a_cons a_var (a_cons a_int a_nil)))) a_nil)))))
      (z_seq (z_set fun _ => (b_disp (b_pcons (b_up fun _ => a_var) (b_pcons (b_up fun _ => a_var) (b_pcons (b_cel (b_upF fun _ => (a_lst a_nil))) (b_pcons (b_cel (b_upF fun _ => (a_lst a_nil))) (b_pcons (b_cel (b_upF fun _ => (a_lst a_nil))) (b_pcons (b_cel (b_lst (b_cons (b_cel (b_upF fun _ => (a_lst a_nil))) (b_cons (b_cel (b_upF fun _ => (a_lst a_nil))) b_nil)))) b_pnil))))))))
      (z_seq (z_putD (fun _ => (b_up fun _ => (a_call (a_cons a_var (a_cons a_var (a_cons a_int a_nil)))))) (fun _ => (b_up fun _ => a_var)) (fun _ => (b_up fun _ => a_str)))
      (z_seq (z_for (vs := [6]) (fun _ => (b_upI fun _ => (i_ran1 (a_cons (a_op pst_rv rok_I0 a_int (a_call (a_cons a_var (a_cons a_var a_nil)))) a_nil)))) (fun _ => (g_name (by decide)))
      (z_seq (z_asg (vs := [7, 8]) (fun _ => (b_up fun _ => (a_op pst_pk rok_ix (a_pk a_var) (a_call (a_cons a_var (a_cons (a_b1 u_len (a_pk a_var)) a_nil)))))) (fun _ => (g_tup (g_cons (g_name (by decide)) (g_cons (g_name (by decide)) g_nil tot_name) tot_name))))
      (z_seq (z_set fun _ => (b_up fun _ => (a_op pst_pk rok_ix (a_pk (a_fz (a_lst (a_cons (a_tup (a_cons a_str a_nil)) (a_cons (a_tup (a_cons a_str (a_cons a_str a_nil))) (a_cons (a_tup (a_cons a_str (a_cons a_str (a_cons a_str a_nil)))) a_nil)))))) (a_call (a_cons a_var (a_cons a_int a_nil))))))
      (z_seq (z_set fun _ => (b_dget (b_up fun _ => a_var) (b_up fun _ => a_str)))
      (z_seq (z_appC (fun _ => (b_up fun _ => a_var)) (fun _ => (b_up fun _ => (a_tup (a_cons (a_op pst_rv rok_ixS a_str a_var) (a_cons a_var (a_cons a_var a_nil)))))))
      (z_drop fun _ => (b_call2 (b_cons (b_up fun _ => a_var) (b_cons (b_up fun _ => a_var) (b_cons (b_up fun _ => a_var) (b_cons (b_up fun _ => a_var) b_nil)))))))))))
      (z_seq (z_for (vs := [11]) (fun _ => (b_upI fun _ => (i_ran1 (a_cons (a_call (a_cons a_var (a_cons (a_op pst_rv rok_I0 a_var a_int) a_nil))) a_nil)))) (fun _ => (g_name (by decide)))
      (z_seq (z_set fun _ => (b_call2 (b_cons (b_up fun _ => a_var) (b_cons (b_up fun _ => a_var) b_nil))))
      (z_seq (z_set fun _ => (b_dget (b_up fun _ => a_var) (b_up fun _ => a_str)))
      (z_if (fun _ => (b_upT fun _ => (a_test (a_op pst_rv rok_notN a_var a_non)))) (z_appC (fun _ => (b_up fun _ => a_var)) (fun _ => (b_up fun _ => a_var))) z_next))))
      (z_stl (z_ret fun _ => (b_up fun _ => a_var)))))))))) (fun ds P a => by obtain ⟨_, _, rfl, _⟩ := a; exact Nat.le_of_ble_eq_true rfl) ?_⟩)
  rintro ds P ⟨cm, mm, rfl, ⟨c1, c3, m10⟩, hp⟩
  refine zseqG fun N hN => ?_
  walk_at "wq"
  refine draw (by omega) (by omega) fun v1 v0 v2 => ?_
  walk_at "wq"
  have fl : 0 < (tab.filter (okRow (6 + v1) 17)).length := by
    have : v1 = 0 ∨ v1 = 1 ∨ v1 = 2 ∨ v1 = 3 ∨ v1 = 4 ∨ v1 = 5 ∨ v1 = 6 := by omega
    rcases this with rfl | rfl | rfl | rfl | rfl | rfl | rfl <;> decide
  refine ⟨6 + v1, 17, rfl, by omega, by omega, fl, fun p q bs gg => ?_⟩
  have gg : GG p q bs (2 + (4 + v1)) 17 := by
    rw [show 2 + (4 + v1) = 6 + v1 by omega]
    exact gg
  have ok := gg.okk
  have gb := gg.gb
  have p3 := gb.p3
  have pm := gb.pm
  have q3 := gb.q3
  have qm := gb.qm
  have lnb := gg.ln
  subst hN
  refine zseqG fun N hN => ?_
  walk_at "wq"
  refine draw (by omega) (by omega) fun u u0 u1 => ?_
  have hu : u = 0 ∨ u = 1 ∨ u = 2 ∨ u = 3 := by omega
  obtain ⟨mo, hmo, mo1, mo16⟩ : ∃ mo : Int, atI [Dat.int 8, .int 8, .int 8, .int 16] u = some (.int mo) ∧ 1 ≤ mo ∧ mo ≤ 16 := by
    rcases hu with rfl | rfl | rfl | rfl
    · exact ⟨8, rfl, by omega, by omega⟩
    · exact ⟨8, rfl, by omega, by omega⟩
    · exact ⟨8, rfl, by omega, by omega⟩
    · exact ⟨16, rfl, by omega, by omega⟩
  walk_at "wq"
  rw [hmo]
  walk_at "wq"
  refine ⟨mo, rfl, mo1, mo16, fun ks kok => ?_⟩
  subst hN
  refine zseqG fun N hN => ?_
  walk_at "wq"
  intro d hd ca_ hca co_ hco ro_ hro p0 hp0 p1 hp1 pi hpi
  obtain ⟨n1, _⟩ := put_none hca
  obtain ⟨n2, z⟩ := put_none hco
  obtain ⟨n3, _⟩ := put_none z
  obtain ⟨n4, z⟩ := put_none hro
  obtain ⟨n5, z⟩ := put_none z
  obtain ⟨n6, _⟩ := put_none z
  obtain ⟨n7, z⟩ := put_none hp0
  obtain ⟨n8, z⟩ := put_none z
  obtain ⟨n9, z⟩ := put_none z
  obtain ⟨n10, _⟩ := put_none z
  obtain ⟨n11, z⟩ := put_none hp1
  obtain ⟨n12, z⟩ := put_none z
  obtain ⟨n13, z⟩ := put_none z
  obtain ⟨n14, z⟩ := put_none z
  obtain ⟨n15, _⟩ := put_none z
  obtain ⟨n16, z⟩ := put_none hpi
  obtain ⟨n17, z⟩ := put_none z
  obtain ⟨n18, z⟩ := put_none z
  obtain ⟨n19, z⟩ := put_none z
  obtain ⟨n20, z⟩ := put_none z
  obtain ⟨n21, _⟩ := put_none z
  clear hd hca hco hro hp0 hp1 hpi z
  rw [Sto.put_n (show d ≠ pi by first | assumption | exact Ne.symm (by assumption)), Sto.put_n (show d ≠ p1 by first | assumption | exact Ne.symm (by assumption)), Sto.put_n (show d ≠ p0 by first | assumption | exact Ne.symm (by assumption)), Sto.put_n (show d ≠ ro_ by first | assumption | exact Ne.symm (by assumption)), Sto.put_n (show d ≠ co_ by first | assumption | exact Ne.symm (by assumption)), Sto.put_n (show d ≠ ca_ by first | assumption | exact Ne.symm (by assumption)), Sto.put_s]
  have eM : mergeD [] [(Sum.inr (Str.ofString "group"), lgD p q bs), (Sum.inr (Str.ofString "kinds"), Dat.lst (List.map kdT ks)), (Sum.inr (Str.ofString "cards"), Dat.cell ca_), (Sum.inr (Str.ofString "conditions"), Dat.cell co_), (Sum.inr (Str.ofString "rows"), Dat.cell ro_), (Sum.inr (Str.ofString "picks"), Dat.cell pi)]
      = [(Sum.inr (Str.ofString "group"), lgD p q bs), (Sum.inr (Str.ofString "kinds"), Dat.lst (List.map kdT ks)), (Sum.inr (Str.ofString "cards"), Dat.cell ca_), (Sum.inr (Str.ofString "conditions"), Dat.cell co_), (Sum.inr (Str.ofString "rows"), Dat.cell ro_), (Sum.inr (Str.ofString "picks"), Dat.cell pi)] := by
    simp [mergeD, putD, ofS_inj]
  rw [eM]
  refine ⟨rfl, by omega, ?_⟩
  subst hN
  refine zseqG fun N hN => ?_
  walk_at "wq"
  refine ⟨p, q, 2, bs, rfl, by omega, by omega, by omega, by omega, fun ns ln hn => ?_⟩
  obtain ⟨s0, s1, rfl⟩ : ∃ y0 y1, ns = [y0, y1] := by
    match ns, ln with
    | [y0, y1], _ => exact ⟨y0, y1, rfl⟩
    | [], h => cases h
    | [_], h => cases h
    | _ :: _ :: _ :: _, h => exact absurd h (by simp only [List.length_cons]; omega)
  have hs0 := hn s0 List.mem_cons_self
  have hs1 := hn s1 (List.mem_cons_of_mem _ List.mem_cons_self)
  walk_at "wq"
  refine ⟨by omega, ?_⟩
  have eP : putD [(Sum.inr (Str.ofString "group"), lgD p q bs), (Sum.inr (Str.ofString "kinds"), Dat.lst (List.map kdT ks)), (Sum.inr (Str.ofString "cards"), Dat.cell ca_), (Sum.inr (Str.ofString "conditions"), Dat.cell co_), (Sum.inr (Str.ofString "rows"), Dat.cell ro_), (Sum.inr (Str.ofString "picks"), Dat.cell pi)] (.inr (Str.ofString "secrets")) (.lst [.int s0, .int s1]) = scK ⟨d, ca_, co_, ro_, pi, p0, p1⟩ p q bs ks s0 s1 := by
    simp [putD, ofS_inj, scK]
  rw [eP]
  subst hN
  obtain ⟨M, hM⟩ : ∃ M : Sto, M = ((((((((Sto.put (fun _ => none) d (some (Ce.dK []))).put ca_ (some (Ce.lst []))).put co_ (some (Ce.lst []))).put ro_ (some (Ce.lst []))).put p0 (some (Ce.lst []))).put p1 (some (Ce.lst []))).put pi (some (Ce.lst [Dat.cell p0, Dat.cell p1]))).put d (some (Ce.dK [(Sum.inr (Str.ofString "group"), lgD p q bs), (Sum.inr (Str.ofString "kinds"), Dat.lst (List.map kdT ks)), (Sum.inr (Str.ofString "cards"), Dat.cell ca_), (Sum.inr (Str.ofString "conditions"), Dat.cell co_), (Sum.inr (Str.ofString "rows"), Dat.cell ro_), (Sum.inr (Str.ofString "picks"), Dat.cell pi)]))).put d (some (Ce.dK (scK ⟨d, ca_, co_, ro_, pi, p0, p1⟩ p q bs ks s0 s1))) := ⟨_, rfl⟩
  rw [← hM]
  have at0 : ScAt M ⟨d, ca_, co_, ro_, pi, p0, p1⟩ p q s0 s1 bs ks [] [] [] [] [] := by
    rw [hM]
    refine ⟨Sto.put_s, ?_, ?_, ?_, ?_, ?_, ?_⟩
    · show _ = some (Ce.lst [])
      rw [Sto.put_n (by first | assumption | exact Ne.symm (by assumption)), Sto.put_n (by first | assumption | exact Ne.symm (by assumption)), Sto.put_n (by first | assumption | exact Ne.symm (by assumption)), Sto.put_n (by first | assumption | exact Ne.symm (by assumption)), Sto.put_n (by first | assumption | exact Ne.symm (by assumption)), Sto.put_n (by first | assumption | exact Ne.symm (by assumption)), Sto.put_n (by first | assumption | exact Ne.symm (by assumption)), Sto.put_s]
    · rw [Sto.put_n (by first | assumption | exact Ne.symm (by assumption)), Sto.put_n (by first | assumption | exact Ne.symm (by assumption)), Sto.put_n (by first | assumption | exact Ne.symm (by assumption)), Sto.put_n (by first | assumption | exact Ne.symm (by assumption)), Sto.put_n (by first | assumption | exact Ne.symm (by assumption)), Sto.put_n (by first | assumption | exact Ne.symm (by assumption)), Sto.put_s]
    · rw [Sto.put_n (by first | assumption | exact Ne.symm (by assumption)), Sto.put_n (by first | assumption | exact Ne.symm (by assumption)), Sto.put_n (by first | assumption | exact Ne.symm (by assumption)), Sto.put_n (by first | assumption | exact Ne.symm (by assumption)), Sto.put_n (by first | assumption | exact Ne.symm (by assumption)), Sto.put_s]
    · rw [Sto.put_n (by first | assumption | exact Ne.symm (by assumption)), Sto.put_n (by first | assumption | exact Ne.symm (by assumption)), Sto.put_s]
    · show _ = some (Ce.lst [])
      rw [Sto.put_n (by first | assumption | exact Ne.symm (by assumption)), Sto.put_n (by first | assumption | exact Ne.symm (by assumption)), Sto.put_n (by first | assumption | exact Ne.symm (by assumption)), Sto.put_n (by first | assumption | exact Ne.symm (by assumption)), Sto.put_s]
    · show _ = some (Ce.lst [])
      rw [Sto.put_n (by first | assumption | exact Ne.symm (by assumption)), Sto.put_n (by first | assumption | exact Ne.symm (by assumption)), Sto.put_n (by first | assumption | exact Ne.symm (by assumption)), Sto.put_s]
  clear hM eM eP
  refine zseqG fun N hN => ?_
  walk_at "wq"
  refine draw (by omega) (by omega) fun cn cn0 cn1 => ?_
  walk_at "wq"
  refine ⟨by omega, by omega, ?_⟩
  obtain ⟨nc, hnc⟩ : ∃ n : Nat, 1 + cn = n := ⟨(1 + cn).toNat, by omega⟩
  rw [hnc, Int.toNat_natCast]
  have hSt : ∃ W : Nat → List Sl → Sto → Prop, ∀ i env M2, W i env M2 ↔ ∃ (cs : List Cd) (rows : List (List (Str × Int × Int))) (pk0 pk1 : List Pk3) (t6 t7 t8 t9 t10 : Sl), env = [Sl.d .pool, Sl.d (.int cm), Sl.d (.int mm), Sl.d (lgD p q bs), Sl.d (.lst (ks.map kdT)), Sl.d (.cell d), t6, t7, t8, t9, t10, Sl.u, Sl.u, Sl.u] ∧
    ScAt M2 ⟨d, ca_, co_, ro_, pi, p0, p1⟩ p q s0 s1 bs ks cs [] (rows.map fun r => .tup (r.map rw3D)) pk0 pk1 ∧ (cs.length = i ∧ rows.length = i ∧ pk0.length = i ∧ pk1.length = i) ∧ (∀ c ∈ cs, CdOk c ∧ (∃ kf, (c.kn, kf) ∈ ks) ∧ 1 ≤ c.is.length ∧ c.is.length ≤ 3) ∧ cs.map (·.nm) = mowN.take i ∧
    ∀ (k : Nat) c r x y, cs[k]? = some c → rows[k]? = some r → pk0[k]? = some x → pk1[k]? = some y → PkOk q (kfS ks c) x ∧ PkOk q (kfS ks c) y ∧ RwsOk p q bs c.is s0 s1 r x y := ⟨_, fun _ _ _ => Iff.rfl⟩
  obtain ⟨W, hW⟩ := hSt
  refine forB_ran W ((hW _ _ _).mpr ⟨[], [], [], [], _, _, _, _, _, rfl, at0, ⟨rfl, rfl, rfl, rfl⟩, fun c h => (by cases h), rfl, fun k c r x y h => (by cases h)⟩) ?_ ?_
  · intro i env M2 hi w N2 hN2
    obtain ⟨cs, rows, pk0, pk1, t6, t7, t8, t9, t10, rfl, sa, ⟨l1, l2, l3, l4⟩, hcs, hnm, hat⟩ := (hW _ _ _).mp w
    clear w
    refine zseqG fun N3 hN3 => ?_
    walk_at "wq"
    rw [List.length_map]
    have kl : 1 ≤ ks.length ∧ ks.length ≤ 2 := by rcases ks_shape kok with ⟨_, e⟩ | ⟨_, _, e⟩ <;> rw [e] <;> exact ⟨Nat.le_of_ble_eq_true rfl, Nat.le_of_ble_eq_true rfl⟩
    refine draw (by omega) (by omega) fun u u0 u1 => ?_
    walk_at "wq"
    refine oa_any u0 u1 fun kd mk => ?_
    have kf := kok.fs kd mk
    rw [show kdT kd = .tup [.str kd.1, .tup (kd.2.map fmD)] from rfl]
    walk_at "wq"
    subst hN3
    refine zseqG fun N3 hN3 => ?_
    walk_at "wq"
    refine draw (by omega) (by omega) fun z z0 z1 => ?_
    have hz : z = 0 ∨ z = 1 ∨ z = 2 := by omega
    obtain ⟨is, his, is1, is3, iso⟩ : ∃ is : List Str, atI [Dat.tup [.str "town"], .tup [.str "state", .str "town"], .tup [.str "town", .str "state", .str "land"]] z = some (.tup (is.map .str)) ∧ 1 ≤ is.length ∧ is.length ≤ 3 ∧ ∀ s ∈ is, PyData.strOk s = true := by
      rcases hz with rfl | rfl | rfl
      · exact ⟨["town"], rfl, by decide, by decide, by decide +kernel⟩
      · exact ⟨["state", "town"], rfl, by decide, by decide, by decide +kernel⟩
      · exact ⟨["town", "state", "land"], rfl, by decide, by decide, by decide +kernel⟩
    walk_at "wq"
    rw [his]
    walk_at "wq"
    subst hN3
    refine zseqG fun N3 hN3 => ?_
    walk_at "wq"
    rw [sa.hd]
    walk_at "wq"
    rw [sk_cards]
    walk_at "wq"
    subst hN3
    refine zseqG fun N3 hN3 => ?_
    walk_at "wq"
    rw [sa.hca]
    walk_at "wq"
    obtain ⟨c, hc1, hc2, hc3⟩ := mow_at i (by omega)
    refine ⟨by decide +kernel, c, hc1, by rw [List.length_map]; omega, ?_⟩
    subst hN3
    walk_at "wq"
    have mput : ∀ y, y ≠ ca_ → (M2.put ca_ (some (Ce.lst (cs.map cdD ++ [Dat.tup [.str ⟨#[c]⟩, .str kd.1, .tup (is.map .str)]])))) y = M2 y := fun y h => Sto.put_n h
    have hd2 := sa.hd
    have hco2 := sa.hco
    have hro2 := sa.hro
    have hpi2 := sa.hpi
    have hp02 := sa.hp0
    have hp12 := sa.hp1
    refine ⟨⟨d, ca_, co_, ro_, pi, p0, p1⟩, p, q, s0, s1, bs, ks, kd.2, is, rows.map fun r => .tup (r.map rw3D), pk0, pk1, rfl, ⟨by rw [mput _ (by first | assumption | exact Ne.symm (by assumption))]; exact hd2, by rw [mput _ (by first | assumption | exact Ne.symm (by assumption))]; exact hro2, by rw [mput _ (by first | assumption | exact Ne.symm (by assumption))]; exact hpi2, by rw [mput _ (by first | assumption | exact Ne.symm (by assumption))]; exact hp02, by rw [mput _ (by first | assumption | exact Ne.symm (by assumption))]; exact hp12, (by first | assumption | exact Ne.symm (by assumption)), (by first | assumption | exact Ne.symm (by assumption)), (by first | assumption | exact Ne.symm (by assumption)), (by first | assumption | exact Ne.symm (by assumption)), (by first | assumption | exact Ne.symm (by assumption))⟩,
      ⟨ok, by omega, by omega, hs0, hs1, by rw [List.length_map]; omega, by omega, by omega⟩, ⟨kf.1, fun f hf => (kf.2 f hf).2, is1, is3⟩, fun rws k0 k1 M' ok0 ok1 rok frm e1 e2 e3 => ?_⟩
    obtain ⟨cd, hcd⟩ : ∃ cd : Cd, cd = ⟨⟨#[c]⟩, kd.1, is⟩ := ⟨_, rfl⟩
    have ekf : kfS ks cd = kd.2 := by unfold kfS; rw [hcd, lkK_of kok mk]; rfl
    have fr2 : ∀ y, y ≠ ro_ → y ≠ p0 → y ≠ p1 → y ≠ ca_ → M2 y ≠ none → M' y = M2 y := fun y h1 h2 h3 h4 h5 => by
      rw [frm y h1 h2 h3 (by rw [mput _ h4]; exact h5), mput _ h4]
    refine hN2 _ _ ((hW _ _ _).mpr ⟨cs ++ [cd], rows ++ [rws], pk0 ++ [k0], pk1 ++ [k1], _, _, _, _, _, rfl, ⟨?_, ?_, ?_, ?_, ?_, e2, e3⟩, ⟨by rw [List.length_append, l1]; rfl, by rw [List.length_append, l2]; rfl, by rw [List.length_append, l3]; rfl, by rw [List.length_append, l4]; rfl⟩, fun x hx => ?_, ?_, fun k c2 r x y g1 g2 g3 g4 => ?_⟩)
    · rw [fr2 d (by first | assumption | exact Ne.symm (by assumption)) (by first | assumption | exact Ne.symm (by assumption)) (by first | assumption | exact Ne.symm (by assumption)) (by first | assumption | exact Ne.symm (by assumption)) (by rw [hd2]; exact fun z => by cases z)]
      exact hd2
    · show M' ca_ = _
      rw [frm ca_ (by first | assumption | exact Ne.symm (by assumption)) (by first | assumption | exact Ne.symm (by assumption)) (by first | assumption | exact Ne.symm (by assumption)) (by rw [Sto.put_s]; exact fun z => by cases z), Sto.put_s, hcd, List.map_append]
      rfl
    · rw [fr2 co_ (by first | assumption | exact Ne.symm (by assumption)) (by first | assumption | exact Ne.symm (by assumption)) (by first | assumption | exact Ne.symm (by assumption)) (by first | assumption | exact Ne.symm (by assumption)) (by rw [hco2]; exact fun z => by cases z)]
      exact hco2
    · rw [e1, List.map_append]
      rfl
    · rw [fr2 pi (by first | assumption | exact Ne.symm (by assumption)) (by first | assumption | exact Ne.symm (by assumption)) (by first | assumption | exact Ne.symm (by assumption)) (by first | assumption | exact Ne.symm (by assumption)) (by rw [hpi2]; exact fun z => by cases z)]
      exact hpi2
    · rcases List.mem_append.mp hx with hx | hx
      · exact hcs x hx
      · obtain rfl := List.mem_singleton.mp hx
        rw [hcd]
        refine ⟨⟨hc3, ?_, iso⟩, ⟨kd.2, mk⟩, is1, is3⟩
        rcases ks_shape kok with ⟨f0, e⟩ | ⟨f0, f1, e⟩
        · rw [e] at mk
          obtain rfl := List.mem_singleton.mp mk
          exact (by decide +kernel : PyData.strOk "person" = true)
        · rw [e] at mk
          rcases List.mem_cons.mp mk with rfl | mk
          · exact (by decide +kernel : PyData.strOk "person" = true)
          · obtain rfl := List.mem_singleton.mp mk
            exact (by decide +kernel : PyData.strOk "club" = true)
    · rw [List.map_append, hnm, List.take_add_one, hc2, hcd]
      rfl
    · by_cases hk : k < i
      · rw [List.getElem?_append_left (by omega)] at g1 g2 g3 g4
        exact hat k c2 r x y g1 g2 g3 g4
      · have hk2 : k = i := by
          have := (List.getElem?_eq_some_iff.mp g1).1
          rw [List.length_append, List.length_singleton] at this
          omega
        rw [List.getElem?_append_right (by omega), show k - cs.length = 0 by omega] at g1
        rw [List.getElem?_append_right (by omega), show k - rows.length = 0 by omega] at g2
        rw [List.getElem?_append_right (by omega), show k - pk0.length = 0 by omega] at g3
        rw [List.getElem?_append_right (by omega), show k - pk1.length = 0 by omega] at g4
        cases g1
        cases g2
        cases g3
        cases g4
        rw [ekf]
        refine ⟨ok0, ok1, ?_⟩
        rw [hcd]
        exact rok
  · intro env M2 w
    obtain ⟨cs, rows, pk0, pk1, t6, t7, t8, t9, t10, rfl, sa, ⟨l1, l2, l3, l4⟩, hcs, hnm, hat⟩ := (hW _ _ _).mp w
    clear w hW W
    show N _ _
    subst hN
    refine zseqG fun N hN => ?_
    walk_at "wq"
    refine draw (by omega) (by omega) fun tn tn0 tn1 => ?_
    walk_at "wq"
    refine ⟨by omega, by omega, ?_⟩
    obtain ⟨nt, hnt⟩ : ∃ n : Nat, tn = n := ⟨tn.toNat, by omega⟩
    rw [hnt, Int.toNat_natCast]
    have hk2 : ∀ (k : Nat) c x y, cs[k]? = some c → pk0[k]? = some x → pk1[k]? = some y → PkOk q (kfS ks c) x ∧ PkOk q (kfS ks c) y := fun k c x y g1 g2 g3 => by
      have lk := (List.getElem?_eq_some_iff.mp g1).1
      obtain ⟨a1, a2, _⟩ := hat k c _ x y g1 (List.getElem?_eq_getElem (by omega)) g2 g3
      exact ⟨a1, a2⟩
    obtain ⟨le, he⟩ := fes_ok kok (by omega) (by omega) (by omega) (fun c hc => ⟨(hcs c hc).1, (hcs c hc).2.1⟩) hk2
    obtain ⟨es, hes⟩ : ∃ es, es = fesA ks (cs.zip (pk0.zip pk1)) := ⟨_, rfl⟩
    have hSt : ∃ W : Nat → List Sl → Sto → Prop, ∀ i env M2, W i env M2 ↔ ∃ (co : List Cnd) (t11 t12 t13 : Sl), env = [Sl.d .pool, Sl.d (.int cm), Sl.d (.int mm), Sl.d (lgD p q bs), Sl.d (.lst (ks.map kdT)), Sl.d (.cell d), t6, t7, t8, t9, t10, t11, t12, t13] ∧
      ScAt M2 ⟨d, ca_, co_, ro_, pi, p0, p1⟩ p q s0 s1 bs ks cs (co.map cndD) (rows.map fun r => .tup (r.map rw3D)) pk0 pk1 ∧ co.length ≤ i ∧ ∀ x ∈ co, CndOk es x := ⟨_, fun _ _ _ => Iff.rfl⟩
    obtain ⟨W, hW⟩ := hSt
    refine forB_ran W ((hW _ _ _).mpr ⟨[], _, _, _, rfl, sa, Nat.le_refl _, fun x h => (by cases h)⟩) ?_ ?_
    · intro i env M3 hi w N2 hN2
      obtain ⟨co, t11, t12, t13, rfl, sb, lco, hco⟩ := (hW _ _ _).mp w
      clear w
      have tco : ∀ d ∈ co.map cndD, ∃ xs, d = Dat.tup xs := fun d hd => by
        obtain ⟨x, _, rfl⟩ := List.mem_map.mp hd
        cases x <;> exact ⟨_, rfl⟩
      have tro : ∀ d ∈ rows.map (fun r => Dat.tup (r.map rw3D)), ∃ xs, d = Dat.tup xs := fun d hd => by
        obtain ⟨x, _, rfl⟩ := List.mem_map.mp hd
        exact ⟨_, rfl⟩
      refine zseqG fun N3 hN3 => ?_
      walk_at "wq"
      have fin : ∀ (x : Option Cnd), (∀ c, x = some c → CndOk es c) → N3 [Sl.d .pool, Sl.d (.int cm), Sl.d (.int mm), Sl.d (lgD p q bs), Sl.d (.lst (ks.map kdT)), Sl.d (.cell d), t6, t7, t8, t9, t10, Sl.d (.int (0 + (i : Int))), Sl.d (match x with | some c => cndD c | none => .non), t13] M3 := fun x hx => by
        subst hN3
        refine zseqG fun N4 hN4 => ?_
        walk_at "wq"
        rw [sb.hd]
        walk_at "wq"
        rw [sk_conds]
        walk_at "wq"
        subst hN4
        cases x with
        | none =>
          walk_at "wq"
          exact hN2 _ _ ((hW _ _ _).mpr ⟨co, _, _, _, rfl, sb, by omega, hco⟩)
        | some c =>
          have hc := hx c rfl
          obtain ⟨ys, hys⟩ : ∃ ys, cndD c = .tup ys := by cases c <;> exact ⟨_, rfl⟩
          dsimp only
          rw [hys]
          walk_at "wq"
          rw [sb.hco]
          walk_at "wq"
          rw [← hys]
          refine ⟨by rw [List.length_map]; omega, hN2 _ _ ((hW _ _ _).mpr ⟨co ++ [c], _, _, _, rfl, ⟨?_, ?_, ?_, ?_, ?_, ?_, ?_⟩, by rw [List.length_append, List.length_singleton]; omega, fun x hx => ?_⟩)⟩
          · rw [Sto.put_n (by first | assumption | exact Ne.symm (by assumption))]
            exact sb.hd
          · rw [Sto.put_n (by first | assumption | exact Ne.symm (by assumption))]
            exact sb.hca
          · rw [Sto.put_s, List.map_append]
            rfl
          · rw [Sto.put_n (by first | assumption | exact Ne.symm (by assumption))]
            exact sb.hro
          · rw [Sto.put_n (by first | assumption | exact Ne.symm (by assumption))]
            exact sb.hpi
          · rw [Sto.put_n (by first | assumption | exact Ne.symm (by assumption))]
            exact sb.hp0
          · rw [Sto.put_n (by first | assumption | exact Ne.symm (by assumption))]
            exact sb.hp1
          · rcases List.mem_append.mp hx with hx | hx
            · exact hco x hx
            · obtain rfl := List.mem_singleton.mp hx
              exact hc
      refine ⟨⟨d, ca_, co_, ro_, pi, p0, p1⟩, p, q, s0, s1, bs, ks, cs, _, _, pk0, pk1, rfl, sb, ⟨tco, tro, kok, by omega, by omega, by omega⟩, fun k c x y g1 g2 g3 => ?_, ⟨le, he⟩, ?_, fun x hx => ?_⟩
      · obtain ⟨a1, a2⟩ := hk2 k c x y g1 g2 g3
        exact ⟨(hcs c (List.mem_of_getElem? g1)).2.1, a1.ln, a2.ln⟩
      · exact fin none fun c h => by cases h
      · rw [← hes] at hx
        exact fin (some x) fun c h => by cases h; exact hx
    · intro env M3 w
      obtain ⟨co, t11, t12, t13, rfl, sb, lco, hco⟩ := (hW _ _ _).mp w
      clear w hW W
      show N _ _
      subst hN
      refine ⟨[Sl.d .pool, Sl.d (.int cm), Sl.d (.int mm), Sl.d (lgD p q bs), Sl.d (.lst (ks.map kdT)), Sl.d (scnD ⟨p, q, bs, ks, cs, co, rows, pk0, pk1, s0, s1⟩), t6, t7, t8, t9, t10, t11, t12, t13], ?_, ?_⟩
      · have hx : SlX M3 (.d (.cell d)) (.d (scnD ⟨p, q, bs, ks, cs, co, rows, pk0, pk1, s0, s1⟩)) := .inr ⟨4, _, rfl, by rw [sb.vx]; rfl⟩
        exact .cons (.inl rfl) (.cons (.inl rfl) (.cons (.inl rfl) (.cons (.inl rfl) (.cons (.inl rfl) (.cons hx (.cons (.inl rfl) (.cons (.inl rfl) (.cons (.inl rfl) (.cons (.inl rfl) (.cons (.inl rfl) (.cons (.inl rfl) (.cons (.inl rfl) (.cons (.inl rfl) .nil)))))))))))))
      · walk_at "wq"
        refine hp _ ⟨ok, by show 6 ≤ bs.length; omega, by show q < 100000; omega, kok, ⟨by show 1 ≤ cs.length; omega, by show cs.length ≤ cm; omega⟩, by show co.length ≤ mm; omega, by show rows.length = cs.length; omega, by show pk0.length = cs.length; omega, by show pk1.length = cs.length; omega, hs0, hs1, hcs, ?_, hat, ?_⟩
        · show (cs.map (·.nm)).Nodup
          rw [hnm]
          exact (by decide +kernel : mowN.Nodup).sublist (List.take_sublist _ _)
        · rw [← hes]
          exact hco
end
local macro_rules | `(tactic| walk_at "dw1") => `(tactic| simp only [aRng, iRngA, aLrng, List.take_succ_cons, List.take_zero, List.drop_succ_cons, List.drop_zero, ktQ_2, dTQ_d, dtQ_d, kTGet, aTIn, gStA, kIsLT_l, kIsLT_t, kIsLT_i, kIsLT_s, aSz, aDc, elD, aDIn, aStar, bk_ks, Option.map_some, Option.map_none, Option.isSome_some, Option.isSome_none, kMin2_i, aDget2, bk_dd, bk_st, kDget_s, dg_c, dg_n, kIxS_i, ofS_inj, Sum.inr.injEq, reduceIte, kInt_bl, Option.getD_none, Option.getD_some, elA, sNext, sIf, sAsg, sSetO, sRet, sRetN, sDrop, sPar, sFz, sApp, sAug, sFor, oQ2_o, dQ_d, dQ2_d, dQ2_o, dAt_0, dAt_s, aVar, aPeek, aC, aFz, a2, a2F, a1, a1F, aCons, aNil, aTup, aTest_eq, aNot, aAnd, aOr, bQ_bl, aAndV, aOrV, aNotV, aIf, aChain, kI_i, kI0_i, kEq_i, kEq_s, kEq_b, kFld_o, oQ_some, aCall, aMeth, aMake, iSeq, lQ_lst, tQ_tup, sQ_lst, sQ_tup, iRan, gA, gTu, gNil_n, gCons_c, aLc, wipeA, kLen, kTupOf, kQ_t, kQ_l, iZipA, iEnA, aSlF, aSlT, aoN, aoS, aRevT, aRevL, kMax2_i, kCatS_s, kCatT_t, kCatL_l, kInt_i, kNeg_i, true_and, aYes, iCons, iNil, iDrop, kIsO_o, two_t, two_f, kIx_l, kIx_t, atI_0, atI_1, atI_2, atI_3, Bool.false_eq_true, if_false, if_true, kStr_i, kIsT_non, kIsT_bl, kIsT_int, kIsT_str, kIsT_lst, kIsT_tup, kIsN_non, kIsN_bl, kIsN_int, kIsN_str, kIsN_lst, kIsN_tup, kIsN_obj, kEq_nn, String.reduceEq, decide_true, decide_false, Bool.or_false, Bool.false_or, Bool.true_or, Bool.or_true, Bool.and_true, Bool.true_and, Bool.and_false, Bool.false_and, Bool.not_true, Bool.not_false, reduceCtorEq,
  List.map_cons, List.map_nil, List.cons_append, List.nil_append, List.length_cons, List.length_nil, Nat.reduceAdd, Nat.reduceSub, List.replicate_succ, List.replicate_zero, List.set_cons_zero, List.set_cons_succ, List.getElem?_cons_zero, List.getElem?_cons_succ])
local macro_rules | `(tactic| walk_at "dw") => `(tactic| first | walk_at "dw1" | skip)
local macro_rules | `(tactic| walk_at "wq1") => `(tactic| simp only [aRng, iRngA, aLrng, List.take_succ_cons, List.take_zero, List.drop_succ_cons, List.drop_zero, ktQ_2, dTQ_d, dtQ_d, kTGet, aTIn, gStA, kIsLT_l, kIsLT_t, kIsLT_i, kIsLT_s, zTPut, bTNew, bMeth2, bPop, bRan, aSz, aDc, elD, aDIn, aStar, bk_ks, Option.map_some, Option.map_none, Option.isSome_some, Option.isSome_none, upV, upVF, upVT, vwS_d, vwS_u, vwS_o, vw_n, vw_b, vw_i, vw_s, vw_p, vw_l, vw_t, vw_o, vw_d, ftD_i, ftD_s, ftD_b, ftD_n, ftD_t, ftAll_n, ftAll_c, bDget, zPutD, bPn, bPc, bDisp, bMethX, bSeq, kMin2_i, aDget2, bk_dk, bk_ks, bk_dd, bk_st, kDget_s, dg_c, dg_n, kIxS_i, ofS_inj, Sum.inr.injEq, reduceIte, kInt_bl, Option.getD_none, Option.getD_some, zRaise, bCallX, bFldC, zSetF, bMake2, bFrzO, coQ_o, isC_c, upE, upF, upT, bFz, bCel, b2, b2F, b1, b1F, bNil, bCons, bTup, bTest, bNot, bAnd, bOr, bAndV, bOrV, bNotV, bIf, bCall, bCallF, bCall2, bFrz, elB, bLc, bYes, zNext, zIf, zAsg, zSetO, zRet, zRetN, zDrop, zPar, zApp, zFz, zAug, zFor, zAppC, zPutC, zPutO, dId, drf_l, drf_t, drf_i, drf_s, drf_b, drf_n, drf_c, drf_o, drc_l, ceQ_c, inQ_i, cQ_l, Sto.put_s, elA, sNext, sIf, sAsg, sSetO, sRet, sRetN, sDrop, sPar, sFz, sApp, sAug, sFor, oQ2_o, dQ_d, dQ2_d, dQ2_o, dAt_0, dAt_s, aVar, aPeek, aC, aFz, a2, a2F, a1, a1F, aCons, aNil, aTup, aTest_eq, aNot, aAnd, aOr, bQ_bl, aAndV, aOrV, aNotV, aIf, aChain, kI_i, kI0_i, kEq_i, kEq_s, kEq_b, kFld_o, oQ_some, aCall, aMeth, aMake, iSeq, lQ_lst, tQ_tup, sQ_lst, sQ_tup, iRan, gA, gTu, gNil_n, gCons_c, aLc, wipeA, kLen, kTupOf, kQ_t, kQ_l, iZipA, iEnA, aSlF, aSlT, aoN, aoS, aRevT, aRevL, kMax2_i, kCatS_s, kCatT_t, kCatL_l, kInt_i, kNeg_i, true_and, aYes, iCons, iNil, iDrop, kIsO_o, two_t, two_f, kIx_l, kIx_t, atI_0, atI_1, atI_2, atI_3, Bool.false_eq_true, if_false, if_true, kStr_i, kIsT_non, kIsT_bl, kIsT_int, kIsT_str, kIsT_lst, kIsT_tup, kIsN_non, kIsN_bl, kIsN_int, kIsN_str, kIsN_lst, kIsN_tup, kIsN_obj, kEq_nn, String.reduceEq, decide_true, decide_false, Bool.or_false, Bool.false_or, Bool.true_or, Bool.or_true, Bool.and_true, Bool.true_and, Bool.and_false, Bool.false_and, Bool.not_true, Bool.not_false, reduceCtorEq,   List.map_cons, List.map_nil, List.cons_append, List.nil_append, List.length_cons, List.length_nil, Nat.reduceAdd, Nat.reduceSub, List.replicate_succ, List.replicate_zero, List.set_cons_zero, List.set_cons_succ, List.getElem?_cons_zero, List.getElem?_cons_succ])
local macro_rules | `(tactic| walk_at "wq") => `(tactic| first | walk_at "wq1" | skip)
abbrev s_Policy___init__ : Stmt := inClass (top 32) 0
theorem sc_Policy___init__ : FnScope ["self", "cards", "conditions", "name", "kind", "issuers", "condition"] ["self", "cards", "conditions"] (defScope s_Policy___init__) := ⟨rfl, rfl, rfl, by decide +kernel, rfl, by decide +kernel, by decide +kernel⟩
abbrev s_Question___init__ : Stmt := inClass (top 19) 0
theorem sc_Question___init__ : FnScope ["self", "group", "kinds", "policy", "rows", "counting", "row"] ["self", "group", "kinds", "policy", "rows"] (defScope s_Question___init__) := ⟨rfl, rfl, rfl, by decide +kernel, rfl, by decide +kernel, by decide +kernel⟩
abbrev s__law_question : Stmt := top 49
theorem sc__law_question : FnScope ["scene", "group", "kinds", "policy", "name", "fields"] ["scene"] (defScope s__law_question) := ⟨rfl, rfl, rfl, by decide +kernel, rfl, by decide +kernel, by decide +kernel⟩
theorem ks_le {ks : List Kd} (h : KsOk ks) : 1 ≤ ks.length ∧ ks.length ≤ 2 := by
  rcases ks_shape h with ⟨_, e⟩ | ⟨_, _, e⟩ <;> rw [e] <;> exact ⟨Nat.le_of_ble_eq_true rfl, Nat.le_of_ble_eq_true rfl⟩
def polO (cs : List Cd) (co : List Cnd) : Dat := .obj 8 [.tup (cs.map cdD), .tup (co.map cndD)]
def quD (s : Sc) : Dat := .obj 9 [grpD s.p s.q s.bs, .tup (s.ks.map kdP), polO s.cs s.co, .tup (s.rows.map fun r => .tup (r.map rw3D))]
section
variable {s : Sc} {P : Dat → Prop} {cs : List Cd} {co : List Cnd}
theorem kq_kinds : kFld 9 1 (quD s) P = P (.tup (s.ks.map kdP)) := propext ⟨fun ⟨_, h⟩ => h, fun h => ⟨rfl, h⟩⟩
theorem kq_pol : kFld 9 2 (quD s) P = P (polO s.cs s.co) := propext ⟨fun ⟨_, h⟩ => h, fun h => ⟨rfl, h⟩⟩
theorem kq_rows : kFld 9 3 (quD s) P = P (.tup (s.rows.map fun r => .tup (r.map rw3D))) := propext ⟨fun ⟨_, h⟩ => h, fun h => ⟨rfl, h⟩⟩
theorem kp_cards : kFld 8 0 (polO cs co) P = P (.tup (cs.map cdD)) := propext ⟨fun ⟨_, h⟩ => h, fun h => ⟨rfl, h⟩⟩
theorem kp_conds : kFld 8 1 (polO cs co) P = P (.tup (co.map cndD)) := propext ⟨fun ⟨_, h⟩ => h, fun h => ⟨rfl, h⟩⟩
end
section
variable {s : Sc} {P : Dat → Prop}
theorem kDget_sc {x : Str} : kDget (scnD s) (.str x) P = oQ (dgetD (scD s.p s.q s.s0 s.s1 s.bs s.ks s.cs (s.co.map cndD) (s.rows.map fun r => .tup (r.map rw3D)) s.pk0 s.pk1) (.inr x)) P := rfl
theorem sc_group : kDget (scnD s) (.str "group") P = P (lgD s.p s.q s.bs) := by rw [kDget_sc]; unfold scD; simp only [dg_c, ofS_inj, Sum.inr.injEq, String.reduceEq, reduceIte]; rfl
theorem sc_kinds : kDget (scnD s) (.str "kinds") P = P (.lst (s.ks.map kdT)) := by rw [kDget_sc]; unfold scD; simp only [dg_c, ofS_inj, Sum.inr.injEq, String.reduceEq, reduceIte]; rfl
theorem sc_cards : kDget (scnD s) (.str "cards") P = P (.lst (s.cs.map cdD)) := by rw [kDget_sc]; unfold scD; simp only [dg_c, ofS_inj, Sum.inr.injEq, String.reduceEq, reduceIte]; rfl
theorem sc_conds : kDget (scnD s) (.str "conditions") P = P (.lst (s.co.map cndD)) := by rw [kDget_sc]; unfold scD; simp only [dg_c, ofS_inj, Sum.inr.injEq, String.reduceEq, reduceIte]; rfl
theorem sc_rows : kDget (scnD s) (.str "rows") P = P (.lst (s.rows.map fun r => .tup (r.map rw3D))) := by rw [kDget_sc]; unfold scD; simp only [dg_c, ofS_inj, Sum.inr.injEq, String.reduceEq, reduceIte]; rfl
theorem sc_picks : kDget (scnD s) (.str "picks") P = P (.lst [.lst (s.pk0.map pk3D), .lst (s.pk1.map pk3D)]) := by rw [kDget_sc]; unfold scD; simp only [dg_c, ofS_inj, Sum.inr.injEq, String.reduceEq, reduceIte]; rfl
theorem sc_secrets : kDget (scnD s) (.str "secrets") P = P (.lst [.int s.s0, .int s.s1]) := by rw [kDget_sc]; unfold scD; simp only [dg_c, ofS_inj, Sum.inr.injEq, String.reduceEq, reduceIte]; rfl
end
section
variable {P : Program} {w : World} {K : PySem.W.Frag} {mg : Str → Option Value} {base : Heap} {ca : Nat → Addr}
abbrev s__kept : Stmt := top 33
theorem sc__kept : FnScope ["condition", "part"] ["condition"] (defScope s__kept) := ⟨rfl, rfl, rfl, by decide +kernel, rfl, by decide +kernel, by decide +kernel⟩
def aspKeptP : ASp := fun ds P => ∃ c : Cnd, ds = [cndD c] ∧ P (cndD c)
theorem ok_kept_p {f : Addr} {fd : FuncData} (F : Fun K "_kept" "_kept" s__kept f fd) (B : Blt mg) : FnOk P w K mg base CX0 1 f fd ["condition"] (toSp K ca aspKeptP) := by
  refine F.ok sc__kept (fun vs H Q E h => sp_len (n := 1) (fun ds P a => by obtain ⟨_, rfl, _⟩ := a; rfl) h) (fun cdv A outer s H vs Q E hr h => ⟨_, (pss_one (ps_ret (pe_callTy (ktupF (K := K) rfl) (by rfl) B.tuple bt_tuple (pa_cons (pe_lc (own := [("part", 1)]) (g := gName 1) (tt := tYes) rfl sc__kept.nd (kpit (K := K) rfl (pv 0)) (blkOk_by (N := ["condition", "part"]) (sc := defScope s__kept) (by decide +kernel))
        (fun _ _ _ _ _ => (pg_name (i := 1) sc__kept.nd rfl (.inl rfl))) (fun _ _ _ _ _ => pts_nil)
        (fun _ _ _ _ _ => (pe_ifExp (pt_val (pe_callB (kisiT (K := K) rfl) (by rfl) B.isinstance bt_isinstance (pa_cons (pv 1) (pa_cons (pe_tup (pa_cons (pe_bltn (v := .ty "list") (u := .type "list") (by rfl) B.list bt_list rfl) (pa_cons (pe_bltn (v := .ty "tuple") (u := .type "tuple") (by rfl) B.tuple bt_tuple rfl) pa_nil))) pa_nil)))) (pe_callTy (ktupF (K := K) rfl) (by rfl) B.tuple bt_tuple (pa_cons (pv 1) pa_nil)) (pv 1)))) pa_nil)))),
    fn_run h (fun po => (s_ret fun _ => (a_b1 u_tupOf (a_pk (a_fz (a_lc (vs := [1]) (i_tup a_var) (g_name (by decide)) a_yes (a_if (a_tb (a_isLT a_var)) (a_b1 u_tupOf (a_pk a_var)) a_var))))))) (fun ds P a => by obtain ⟨_, rfl, _⟩ := a; exact Nat.le_of_ble_eq_true rfl) ?_⟩)
  rintro ds P ⟨c, rfl, hp⟩
  have key : ∀ xs : List Dat, (∀ d ∈ xs, (∃ i, d = .int i) ∨ (∃ s, d = .str s) ∨ ∃ ys, d = .tup ys) → xs.length ≤ 100 → cndD c = .tup xs → sRet (a1 kTupOf (aFz (aLc (iSeq tQ (aVar 0)) (gA 1) aYes (aIf (aTest (a1 kIsLT (aVar 1))) (a1 kTupOf (aVar 1)) (aVar 1)) [1]))) { nx := fun _ => P .non, rt := P } [.d (cndD c), .u] := fun xs hx hl e => by
    rw [e]
    walk_at "dw"
    refine ⟨by omega, ?_⟩
    rw [show xs = xs.map id from (List.map_id xs).symm]
    refine lcA_mapL (g := id) (fun d hd Q hQ => ?_) ?_
    · rcases hx d (by simpa using hd) with ⟨i, rfl⟩ | ⟨s, rfl⟩ | ⟨ys, rfl⟩
      · walk_at "dw"
        exact hQ
      · walk_at "dw"
        exact hQ
      · walk_at "dw"
        exact hQ
    · walk_at "dw"
      rw [List.map_id, ← e]
      exact hp
  cases c with
  | tell c f => exact key _ (by intro d hd; simp only [List.mem_cons, List.mem_nil_iff, or_false] at hd; rcases hd with rfl | rfl | rfl <;> exact .inr (.inl ⟨_, rfl⟩)) (Nat.le_of_ble_eq_true rfl) rfl
  | equal c f n => exact key _ (by intro d hd; simp only [List.mem_cons, List.mem_nil_iff, or_false] at hd; rcases hd with rfl | rfl | rfl | rfl <;> first | exact .inr (.inl ⟨_, rfl⟩) | exact .inl ⟨_, rfl⟩) (Nat.le_of_ble_eq_true rfl) rfl
  | least c f n => exact key _ (by intro d hd; simp only [List.mem_cons, List.mem_nil_iff, or_false] at hd; rcases hd with rfl | rfl | rfl | rfl <;> first | exact .inr (.inl ⟨_, rfl⟩) | exact .inl ⟨_, rfl⟩) (Nat.le_of_ble_eq_true rfl) rfl
  | among c f ns => exact key _ (by intro d hd; simp only [List.mem_cons, List.mem_nil_iff, or_false] at hd; rcases hd with rfl | rfl | rfl | rfl <;> first | exact .inr (.inl ⟨_, rfl⟩) | exact .inr (.inr ⟨_, rfl⟩)) (Nat.le_of_ble_eq_true rfl) rfl
  | same c f c2 f2 => exact key _ (by intro d hd; simp only [List.mem_cons, List.mem_nil_iff, or_false] at hd; rcases hd with rfl | rfl | rfl | rfl | rfl <;> exact .inr (.inl ⟨_, rfl⟩)) (Nat.le_of_ble_eq_true rfl) rfl
def aspPolI2 : ASpI := fun ds P => ∃ (cs : List Cd) (co : List Cnd), ds = [.lst (cs.map cdD), .lst (co.map cndD)] ∧ cs.length ≤ 1000 ∧ co.length ≤ 1000 ∧ P [.tup (cs.map cdD), .tup (co.map cndD)]
theorem ok_pol_init2 {f : Addr} {fd : FuncData} (F : Fun K "__init__" "Policy.__init__" s_Policy___init__ f fd) (T8 : PoT K (ca 8)) (B : Blt mg) (C__kept : C8.Cal P w K mg base 1 "_kept" (toSp K ca aspKeptP) []) : FnOk P w K mg base CX0 2 f fd ["self", "cards", "conditions"] (toSpI K ca 8 aspPolI2) := by
  refine F.ok sc_Policy___init__ (fun vs H Q E h => sp_lenI (n := 2) (fun ds P a => by obtain ⟨_, _, rfl, _⟩ := a; rfl) h) (fun cdv A outer s H vs Q E hr h => ⟨_, (pss_cons (ps_fld (pv 0) (pe_callTy (ktupF (K := K) rfl) (by rfl) B.tuple bt_tuple (pa_cons (pe_lc (own := [("name", 3), ("kind", 4), ("issuers", 5)]) (tt := tYes) rfl sc_Policy___init__.nd (kpil (K := K) rfl (pv 1)) (blkOk_by (N := ["self", "cards", "conditions", "name", "kind", "issuers", "condition"]) (sc := defScope s_Policy___init__) (by decide +kernel))
        (fun _ _ _ _ _ => (kgtup (K := K) (n := 3) rfl rfl (pgs_cons (pg_name (i := 3) sc_Policy___init__.nd rfl (.inl rfl)) (pgs_cons (pg_name (i := 4) sc_Policy___init__.nd rfl (.inl rfl)) (pgs_cons (pg_name (i := 5) sc_Policy___init__.nd rfl (.inl rfl)) pgs_nil))))) (fun _ _ _ _ _ => pts_nil)
        (fun _ _ _ _ _ => (pe_tupF (pa_cons (pv 3) (pa_cons (pv 4) (pa_cons (pe_callTy (ktupF (K := K) rfl) (by rfl) B.tuple bt_tuple (pa_cons (pv 5) pa_nil)) pa_nil)))))) pa_nil)) rfl)
      (pss_cons (ps_fld (pv 0) (pe_callTy (ktupF (K := K) rfl) (by rfl) B.tuple bt_tuple (pa_cons (pe_lc (own := [("condition", 6)]) (g := gName 6) (tt := tYes) rfl sc_Policy___init__.nd (kpil (K := K) rfl (pv 2)) (blkOk_by (N := ["self", "cards", "conditions", "name", "kind", "issuers", "condition"]) (sc := defScope s_Policy___init__) (by decide +kernel))
        (fun _ _ _ _ _ => (pg_name (i := 6) sc_Policy___init__.nd rfl (.inl rfl))) (fun _ _ _ _ _ => pts_nil)
        (fun _ _ _ _ _ => (C8.pe_c C__kept hr (by omega) rfl (pa_cons (pv 6) pa_nil)))) pa_nil)) rfl) pss_nil)),
    fn_init h (fun po => (i_cons T8.cl T8.n_cards (k := 0) rfl (by decide) (by decide) (fun _ => (a_b1 u_tupOf (a_pk (a_fz (a_lc (vs := [3, 4, 5]) (i_list a_var) (g_tup (g_cons (g_name (by decide)) (g_cons (g_name (by decide)) (g_cons (g_name (by decide)) g_nil tot_name) tot_name) tot_name)) a_yes (a_tup (a_cons a_var (a_cons a_var (a_cons (a_b1 u_tupOf (a_pk a_var)) a_nil))))))))) (i_cons T8.cl T8.n_conditions (k := 1) rfl (by decide) (by decide) (fun _ => (a_b1 u_tupOf (a_pk (a_fz (a_lc (vs := [6]) (i_list a_var) (g_name (by decide)) a_yes (a_call (a_cons a_var a_nil))))))) i_nil))) (fun ds P a => by obtain ⟨_, _, rfl, _⟩ := a; exact Nat.le_of_ble_eq_true rfl) ?_⟩)
  rintro ds P ⟨cs, co, rfl, hl, hl2, hp⟩
  walk_at "dw"
  refine ⟨by rw [List.length_map]; omega, ?_⟩
  refine lcA_mapL (g := cdD) (fun c hc Q hQ => ?_) ?_
  · unfold cdD
    walk_at "dw"
    exact hQ
  walk_at "dw"
  refine ⟨by rw [List.length_map]; omega, ?_⟩
  refine lcA_mapL (g := cndD) (fun c hc Q hQ => ?_) ?_
  · walk_at "dw"
    exact ⟨c, rfl, hQ⟩
  exact hp
def aspQuT : ASpI := fun ds P => ∃ (g po : Dat) (ks : List Dat) (rs : List (List (Str × Int × Int))), ds = [g, .lst ks, po, .lst (rs.map fun r => .tup (r.map rw3D))] ∧ rs.length ≤ 1000 ∧ (∀ r ∈ rs, r.length ≤ 1000) ∧ P [g, .tup ks, po, .tup (rs.map fun r => .tup (r.map rw3D))]
theorem ok_qu_initT {f : Addr} {fd : FuncData} (F : Fun K "__init__" "Question.__init__" s_Question___init__ f fd) (T9 : QuT K (ca 9)) (B : Blt mg) : FnOk P w K mg base CX0 1 f fd ["self", "group", "kinds", "policy", "rows"] (toSpI K ca 9 aspQuT) := by
  refine F.ok sc_Question___init__ (fun vs H Q E h => sp_lenI (n := 4) (fun ds P a => by obtain ⟨_, _, _, _, rfl, _⟩ := a; rfl) h) (fun cdv A outer s H vs Q E hr h => ⟨_, (pss_cons (ps_fld (pv 0) (pv 1) rfl)
      (pss_cons (ps_fld (pv 0) (pe_callTy (ktupF (K := K) rfl) (by rfl) B.tuple bt_tuple (pa_cons (pv 2) pa_nil)) rfl)
      (pss_cons (ps_fld (pv 0) (pv 3) rfl)
      (pss_cons (ps_fld (pv 0) (pe_callTy (ktupF (K := K) rfl) (by rfl) B.tuple bt_tuple (pa_cons (pe_lc (own := [("counting", 5)]) (g := gName 5) (tt := tYes) rfl sc_Question___init__.nd (kpil (K := K) rfl (pv 4)) (blkOk_by (N := ["self", "group", "kinds", "policy", "rows", "counting", "row"]) (sc := defScope s_Question___init__) (by decide +kernel))
        (fun _ _ _ _ _ => (pg_name (i := 5) sc_Question___init__.nd rfl (.inl rfl))) (fun _ _ _ _ _ => pts_nil)
        (fun _ _ _ _ _ => (pe_callTy (ktupF (K := K) rfl) (by rfl) B.tuple bt_tuple (pa_cons (pe_lc (own := [("row", 6)]) (g := gName 6) (tt := tYes) rfl sc_Question___init__.nd (kpit (K := K) rfl (pv 5)) (blkOk_by (N := ["self", "group", "kinds", "policy", "rows", "counting", "row"]) (sc := { kind := .function, names := [(".0", .local), ("counting", .local), ("tuple", .globalImplicit)], isGenerator := false, isCoroutine := false }) (by decide +kernel))
        (fun _ _ _ _ _ => (pg_name (i := 6) sc_Question___init__.nd rfl (.inl rfl))) (fun _ _ _ _ _ => pts_nil)
        (fun _ _ _ _ _ => (pe_callTy (ktupF (K := K) rfl) (by rfl) B.tuple bt_tuple (pa_cons (pv 6) pa_nil)))) pa_nil)))) pa_nil)) rfl) pss_nil)))),
    fn_init h (fun po => (i_cons T9.cl T9.n_group (k := 0) rfl (by decide) (by decide) (fun _ => a_var) (i_cons T9.cl T9.n_kinds (k := 1) rfl (by decide) (by decide) (fun _ => (a_b1 u_tupOf (a_pk a_var))) (i_cons T9.cl T9.n_policy (k := 2) rfl (by decide) (by decide) (fun _ => a_var) (i_cons T9.cl T9.n_rows (k := 3) rfl (by decide) (by decide) (fun _ => (a_b1 u_tupOf (a_pk (a_fz (a_lc (vs := [5]) (i_list a_var) (g_name (by decide)) a_yes (a_b1 u_tupOf (a_pk (a_fz (a_lc (vs := [6]) (i_tup a_var) (g_name (by decide)) a_yes (a_b1 u_tupOf (a_pk a_var))))))))))) i_nil))))) (fun ds P a => by obtain ⟨_, _, _, _, rfl, _⟩ := a; exact Nat.le_of_ble_eq_true rfl) ?_⟩)
  rintro ds P ⟨g, po, ks, rs, rfl, hl, hr, hp⟩
  walk_at "dw"
  refine ⟨by rw [List.length_map]; omega, ?_⟩
  refine lcA_mapL (g := fun r => Dat.tup (List.map rw3D r)) (fun r hr' Q hQ => ?_) ?_
  · walk_at "dw"
    refine ⟨by rw [List.length_map]; have := hr r hr'; omega, ?_⟩
    refine lcA_mapL (g := rw3D) (fun x hx Q2 hQ2 => ?_) ?_
    · unfold rw3D
      walk_at "dw"
      exact hQ2
    · exact hQ
  · exact hp
def aspLQu : ASp := fun ds P => ∃ (cm mm : Nat) (s : Sc), ds = [scnD s] ∧ (ScOk cm mm s ∧ cm ≤ 3 ∧ mm ≤ 10) ∧ P (quD s)
theorem ok_law_question {f : Addr} {fd : FuncData} (F : Fun K "_law_question" "_law_question" s__law_question f fd) (B : Blt mg) (K_Kind : C8.Mak P w K mg base 1 "Kind" (ca 3) (toSpI K ca 3 aspKdI) []) (K_Policy : C8.Mak P w K mg base 2 "Policy" (ca 8) (toSpI K ca 8 aspPolI2) []) (K_Question : C8.Mak P w K mg base 1 "Question" (ca 9) (toSpI K ca 9 aspQuT) [])
    (K_Group : C8.Mak P w K mg base 4 "Group" (ca 0) (toSpI K ca 0 aspGroupI) []) : FnOk P w K mg base CX0 6 f fd ["scene"] (toSp K ca aspLQu) := by
  refine F.ok sc__law_question (fun vs H Q E h => sp_len (n := 1) (fun ds P a => by obtain ⟨_, _, _, rfl, _⟩ := a; rfl) h) (fun cdv A outer s H vs Q E hr h => ⟨_, (pss_cons (ps_set (i := 1) sc__law_question.nd rfl (.inl rfl) (pe_dget (hu_of hr) (pv 0) pe_str (fun _ _ => rfl)))
      (pss_cons (ps_setLc (i := 2) (own := [("name", 4), ("fields", 5)]) (tt := tYes) rfl sc__law_question.nd rfl rfl (sw_true rfl rfl rfl (by decide +kernel)) (kpil (K := K) rfl (pe_dget (hu_of hr) (pv 0) pe_str (fun _ _ => rfl))) (blkOk_by (N := ["scene", "group", "kinds", "policy", "name", "fields"]) (sc := defScope s__law_question) (by decide +kernel))
        (fun _ _ _ _ _ => (kgtup (K := K) (n := 2) rfl rfl (pgs_cons (pg_name (i := 4) sc__law_question.nd rfl (.inl rfl)) (pgs_cons (pg_name (i := 5) sc__law_question.nd rfl (.inl rfl)) pgs_nil)))) (fun _ _ _ _ _ => pts_nil)
        (fun _ _ _ _ _ => (C8.pe_mk K_Kind hr (by omega) rfl (pa_cons (pv 4) (pa_cons (pv 5) pa_nil)))))
      (pss_cons (ps_set (i := 3) sc__law_question.nd rfl (.inl rfl) (C8.pe_mk K_Policy hr (by omega) rfl (pa_cons (pe_dget (hu_of hr) (pv 0) pe_str (fun _ _ => rfl)) (pa_cons (pe_dget (hu_of hr) (pv 0) pe_str (fun _ _ => rfl)) pa_nil))))
      (pss_one (ps_ret (C8.pe_mk K_Question hr (by omega) rfl (pa_cons (C8.pe_mk K_Group hr (by omega) rfl (pa_cons (pe_ix (kixs (K := K) rfl) (pv 1) pe_int (fun _ _ => rfl)) (pa_cons (pe_ix (kixs (K := K) rfl) (pv 1) pe_int (fun _ _ => rfl)) (pa_cons (pe_ix (kixs (K := K) rfl) (pv 1) pe_int (fun _ _ => rfl)) pa_nil)))) (pa_cons (pv 2) (pa_cons (pv 3) (pa_cons (pe_dget (hu_of hr) (pv 0) pe_str (fun _ _ => rfl)) pa_nil)))))))))),
    fn_run h (fun po => (s_seq (s_set fun _ => (a_dget a_var a_str))
      (s_seq (s_set fun _ => (a_fz (a_lc (vs := [4, 5]) (i_list (a_dget a_var a_str)) (g_tup (g_cons (g_name (by decide)) (g_cons (g_name (by decide)) g_nil tot_name) tot_name)) a_yes (a_make (a_cons a_var (a_cons a_var a_nil))))))
      (s_seq (s_set fun _ => (a_make (a_cons (a_dget a_var a_str) (a_cons (a_dget a_var a_str) a_nil))))
      (s_ret fun _ => (a_make (a_cons (a_make (a_cons (a_op pst_pk rok_ix (a_pk a_var) a_int) (a_cons (a_op pst_pk rok_ix (a_pk a_var) a_int) (a_cons (a_op pst_pk rok_ix (a_pk a_var) a_int) a_nil)))) (a_cons a_var (a_cons a_var (a_cons (a_dget a_var a_str) a_nil)))))))))) (fun ds P a => by obtain ⟨_, _, _, rfl, _⟩ := a; exact Nat.le_of_ble_eq_true rfl) ?_⟩)
  rintro ds P ⟨cm, mm, s, rfl, ⟨ok, c3, m10⟩, hp⟩
  refine seqG fun N hN => ?_
  walk_at "dw"
  rw [sc_group]
  walk_at "dw"
  subst hN
  refine seqG fun N hN => ?_
  have lo := ok.lo
  have lc := ok.lc
  have lr := ok.lr
  have kl := ks_le ok.kok
  walk_at "dw"
  rw [sc_kinds]
  walk_at "dw"
  refine ⟨by rw [List.length_map]; omega, ?_⟩
  refine lcA_mapL (g := kdP) (fun k hk Q hQ => ?_) ?_
  · obtain ⟨k4, _⟩ := ok.kok.fs k hk
    rw [show kdT k = .tup [.str k.1, .tup (k.2.map fmD)] from rfl]
    walk_at "dw"
    exact ⟨true, k.1, k.2, rfl, by omega, hQ⟩
  subst hN
  refine seqG fun N hN => ?_
  walk_at "dw"
  rw [sc_cards]
  walk_at "dw"
  rw [sc_conds]
  walk_at "dw"
  refine ⟨s.cs, s.co, rfl, by omega, by omega, ?_⟩
  subst hN
  walk_at "dw"
  unfold lgD
  walk_at "dw"
  refine ⟨s.p, s.q, s.bs, rfl, ok.gk, ?_⟩
  walk_at "dw"
  rw [sc_rows]
  walk_at "dw"
  refine ⟨_, _, _, s.rows, rfl, by omega, fun r hr => ?_, hp⟩
  obtain ⟨k, hk⟩ := List.mem_iff_getElem?.mp hr
  have lk := (List.getElem?_eq_some_iff.mp hk).1
  have l0 := ok.l0
  have l1 := ok.l1
  have := (ok.at_ k _ r _ _ (List.getElem?_eq_getElem (by omega)) hk (List.getElem?_eq_getElem (by omega)) (List.getElem?_eq_getElem (by omega))).2.2.ln
  omega
end
abbrev s_fields_of : Stmt := top 20
theorem sc_fields_of : FnScope ["question", "card", "named", "kind"] ["question", "card"] (defScope s_fields_of) := ⟨rfl, rfl, rfl, by decide +kernel, rfl, by decide +kernel, by decide +kernel⟩
abbrev s__place_named : Stmt := top 22
theorem sc__place_named : FnScope ["question", "card", "field", "card_index", "name", "_"] ["question", "card", "field"] (defScope s__place_named) := ⟨rfl, rfl, rfl, by decide +kernel, rfl, by decide +kernel, by decide +kernel⟩
abbrev s_conditions_of : Stmt := top 21
theorem sc_conditions_of : FnScope ["question", "found", "word", "card", "field", "rest", "place"] ["question"] (defScope s_conditions_of) := ⟨rfl, rfl, rfl, by decide +kernel, rfl, by decide +kernel, by decide +kernel⟩
abbrev s__lets : Stmt := top 24
theorem sc__lets : FnScope ["word", "rest", "number"] ["word", "rest", "number"] (defScope s__lets) := ⟨rfl, rfl, rfl, by decide +kernel, rfl, by decide +kernel, by decide +kernel⟩
abbrev s_meet_conditions : Stmt := top 23
theorem sc_meet_conditions : FnScope ["question", "numbers", "word", "place", "rest", "wanted"] ["question", "numbers"] (defScope s_meet_conditions) := ⟨rfl, rfl, rfl, by decide +kernel, rfl, by decide +kernel, by decide +kernel⟩
def cIx (cs : List Cd) (cn : Str) : Nat := cs.findIdx fun c => decide (c.nm = cn)
def fIx (fs : List Fld) (fn : Str) : Nat := fs.findIdx fun f => decide (f.1 = fn)
def plO (s : Sc) (cn fn : Str) : Nat × Nat := (cIx s.cs cn, fIx ((s.cs[cIx s.cs cn]?.map (kfS s.ks)).getD []) fn)
def plcD (x : Nat × Nat) : Dat := .tup [.int x.1, .int x.2]
def HasPl (s : Sc) (cn fn : Str) : Prop := ∃ c ∈ s.cs, c.nm = cn ∧ ∃ f ∈ kfS s.ks c, f.1 = fn
theorem find_at {α : Type} {p : α → Bool} {xs : List α} (h : ∃ x ∈ xs, p x = true) : ∃ x, xs[xs.findIdx p]? = some x ∧ p x = true ∧ ∀ m, m < xs.findIdx p → ∀ y, xs[m]? = some y → p y = false := by
  have hl := List.findIdx_lt_length_of_exists h
  refine ⟨xs[xs.findIdx p], List.getElem?_eq_getElem hl, List.findIdx_getElem, fun m hm y hy => ?_⟩
  obtain ⟨hm2, rfl⟩ := List.getElem?_eq_some_iff.mp hy
  exact List.not_of_lt_findIdx hm
theorem HasPl.at_ {s : Sc} {cn fn : Str} (h : HasPl s cn fn) (nd : (s.cs.map (·.nm)).Nodup) : ∃ c f, s.cs[(plO s cn fn).1]? = some c ∧ c.nm = cn ∧ (∀ m, m < (plO s cn fn).1 → ∀ y, s.cs[m]? = some y → y.nm ≠ cn) ∧
    (kfS s.ks c)[(plO s cn fn).2]? = some f ∧ f.1 = fn ∧ ∀ m, m < (plO s cn fn).2 → ∀ y, (kfS s.ks c)[m]? = some y → y.1 ≠ fn := by
  obtain ⟨c0, hc0, e0, f0, hf0, g0⟩ := h
  obtain ⟨c, h1, h2, h3⟩ := find_at (p := fun c : Cd => decide (c.nm = cn)) ⟨c0, hc0, decide_eq_true e0⟩
  have ec : c = c0 := by
    obtain ⟨k, hk⟩ := List.mem_iff_getElem?.mp hc0
    have a1 : (s.cs.map (·.nm))[s.cs.findIdx fun c => decide (c.nm = cn)]? = some cn := by rw [List.getElem?_map, h1, Option.map_some, of_decide_eq_true h2]
    have a2 : (s.cs.map (·.nm))[k]? = some cn := by rw [List.getElem?_map, hk, Option.map_some, e0]
    have := (List.getElem?_inj (List.getElem?_eq_some_iff.mp a1).1 nd).mp (a1.trans a2.symm)
    rw [this, hk] at h1
    exact (Option.some.inj h1).symm
  subst ec
  obtain ⟨f, k1, k2, k3⟩ := find_at (p := fun f : Fld => decide (f.1 = fn)) ⟨f0, hf0, decide_eq_true g0⟩
  have e1 : (plO s cn fn).1 = s.cs.findIdx fun c => decide (c.nm = cn) := rfl
  have e2 : (plO s cn fn).2 = (kfS s.ks c).findIdx fun f => decide (f.1 = fn) := by
    show fIx ((s.cs[cIx s.cs cn]?.map (kfS s.ks)).getD []) fn = _
    rw [show s.cs[cIx s.cs cn]? = some c from h1]
    rfl
  rw [e1, e2]
  exact ⟨c, f, h1, of_decide_eq_true h2, fun m hm y hy => of_decide_eq_false (h3 m hm y hy), k1, of_decide_eq_true k2, fun m hm y hy => of_decide_eq_false (k3 m hm y hy)⟩
/-- a condition's places are there -/
def CndPl (s : Sc) : Cnd → Prop
  | .tell c f => HasPl s c f
  | .equal c f _ => HasPl s c f
  | .least c f _ => HasPl s c f
  | .among c f _ => HasPl s c f
  | .same c f c2 f2 => HasPl s c f ∧ HasPl s c2 f2
theorem fe_pl {s : Sc} {e : Fe} (h : e ∈ fesA s.ks (s.cs.zip (s.pk0.zip s.pk1))) : HasPl s e.cn e.fn := by
  obtain ⟨z, hz, j, f, v0, v1, h1, h2, h3, rfl⟩ := mem_fes h
  exact ⟨z.1, (List.of_mem_zip (show (z.1, z.2) ∈ _ from hz)).1, rfl, f, List.mem_of_getElem? h1, rfl⟩
theorem cnd_pl {s : Sc} {x : Cnd} (h : CndOk (fesA s.ks (s.cs.zip (s.pk0.zip s.pk1))) x) : CndPl s x := by
  cases h with
  | tell e h b => exact fe_pl h
  | equal e h b => exact fe_pl h
  | least e h n n0 h0 h1 => exact fe_pl h
  | among e h ns l h0 h1 r => exact fe_pl h
  | same e e2 h h2 ne b0 b1 => exact ⟨fe_pl h, fe_pl h2⟩
def cofD (s : Sc) : Cnd → Dat
  | .tell c f => .tup [.str "tell", plcD (plO s c f), .non]
  | .equal c f n => .tup [.str "equal", plcD (plO s c f), .int n]
  | .least c f n => .tup [.str "least", plcD (plO s c f), .int n]
  | .among c f ns => .tup [.str "among", plcD (plO s c f), .tup (ns.map .int)]
  | .same c f c2 f2 => .tup [.str "same", plcD (plO s c f), plcD (plO s c2 f2)]
theorem dget_kd {ks : List Kd} (h : KsOk ks) {kn : Str} {kf : List Fld} (m : (kn, kf) ∈ ks) : dgetD (mkD (fun k : Kd => .inr k.1) kdP [] ks) (.inr kn) = some (kdP (kn, kf)) := by
  have ne := pc_ne
  rcases ks_shape h with ⟨f0, rfl⟩ | ⟨f0, f1, rfl⟩
  · obtain ⟨rfl, rfl⟩ := Prod.mk.inj (List.mem_singleton.mp m)
    simp [mkD, putD, dg_c]
  · rcases List.mem_cons.mp m with e | m
    · obtain ⟨rfl, rfl⟩ := Prod.mk.inj e
      simp [mkD, putD, dg_c, ofS_inj]
    · obtain ⟨rfl, rfl⟩ := Prod.mk.inj (List.mem_singleton.mp m)
      simp [mkD, putD, dg_c, ofS_inj]
section
variable {P : Program} {w : World} {K : PySem.W.Frag} {mg : Str → Option Value} {base : Heap} {ca : Nat → Addr}
def aspFO : ASp := fun ds P => ∃ (s : Sc) (j : Nat) (c : Cd), ds = [quD s, .int j] ∧ (KsOk s.ks ∧ s.cs[j]? = some c ∧ ∃ kf, (c.kn, kf) ∈ s.ks) ∧ P (.tup ((kfS s.ks c).map fmD))
theorem ok_fields_of {f : Addr} {fd : FuncData} (F : Fun K "fields_of" "fields_of" s_fields_of f fd) (T3 : KdT K (ca 3)) (T8 : PoT K (ca 8)) (T9 : QuT K (ca 9)) (B : Blt mg) : FnOk P w K mg base CX0 1 f fd ["question", "card"] (toSp K ca aspFO) := by
  refine F.ok sc_fields_of (fun vs H Q E h => sp_len (n := 2) (fun ds P a => by obtain ⟨_, _, _, rfl, _⟩ := a; rfl) h) (fun cdv A outer s H vs Q E hr h => ⟨_, (pss_cons (ps_setDc (i := 2) (own := [("kind", 3)]) (g := gName 3) (tt := tYes) rfl sc_fields_of.nd rfl rfl (sw_dc rfl rfl rfl (by decide +kernel)) (kpit (K := K) rfl (kfld (K := K) rfl (pv 0))) (blkOk_by (N := ["question", "card", "named", "kind"]) (sc := defScope s_fields_of) (by decide +kernel))
        (fun _ _ _ _ _ => (pg_name (i := 3) sc_fields_of.nd rfl (.inl rfl))) (fun _ _ _ _ _ => pts_nil)
        (fun _ _ _ _ _ => (kfld (K := K) rfl (pv 3)))
        (fun _ _ _ _ _ => (pv 3)))
      (pss_one (ps_ret (kfld (K := K) rfl (pe_dget (hu_of hr) (pv 2) (pe_ix (kixs (K := K) rfl) (pe_ix (kixs (K := K) rfl) (kfld (K := K) rfl (kfld (K := K) rfl (pv 0))) (pv 1) (fun _ _ => rfl)) pe_int (fun _ _ => rfl)) (fun _ _ => rfl)))))),
    fn_run h (fun po => (s_seq (s_set fun _ => (a_dc (vs := [3]) (i_tup (a_fld T9.cl T9.n_kinds (c := 9) (i := 1) rfl a_var)) (g_name (by decide)) a_yes (a_fld T3.cl T3.n_name (c := 3) (i := 0) rfl a_var) a_var))
      (s_ret fun _ => (a_fld T3.cl T3.n_fields (c := 3) (i := 1) rfl (a_dget a_var (a_op pst_pk rok_ix (a_pk (a_op pst_pk rok_ix (a_pk (a_fld T8.cl T8.n_cards (c := 8) (i := 0) rfl (a_fld T9.cl T9.n_policy (c := 9) (i := 2) rfl a_var))) a_var)) a_int)))))) (fun ds P a => by obtain ⟨_, _, _, rfl, _⟩ := a; exact Nat.le_of_ble_eq_true rfl) ?_⟩)
  rintro ds P ⟨s, j, c, rfl, ⟨kok, hc, kf, mk⟩, hp⟩
  refine seqG fun N hN => ?_
  walk_at "dw"
  rw [kq_kinds]
  walk_at "dw"
  refine ⟨by rw [List.length_map]; have := ks_le kok; omega, ?_⟩
  refine lcD_map (fun k : Kd => .inr k.1) kdP (fun k hk Q hQ => ?_) ?_
  · rw [show kdP k = .obj 3 [.str k.1, .tup (k.2.map fmD)] from rfl] at hQ ⊢
    walk_at "dw"
    exact hQ
  subst hN
  walk_at "dw"
  rw [kq_pol, kp_cards]
  walk_at "dw"
  refine oa_at rfl hc ?_
  unfold cdD
  walk_at "dw"
  rw [dget_kd kok mk, show kdP (c.kn, kf) = .obj 3 [.str c.kn, .tup (kf.map fmD)] from rfl]
  walk_at "dw"
  unfold kfS at hp
  rw [lkK_of kok mk] at hp
  exact hp
def aspPN : ASp := fun ds P => ∃ (cm mm : Nat) (s : Sc) (cn fn : Str), ds = [quD s, .str cn, .str fn] ∧ (ScOk cm mm s ∧ cm ≤ 3 ∧ HasPl s cn fn) ∧ P (plcD (plO s cn fn))
theorem ok_place_named {f : Addr} {fd : FuncData} (F : Fun K "_place_named" "_place_named" s__place_named f fd) (T8 : PoT K (ca 8)) (T9 : QuT K (ca 9)) (B : Blt mg) (C_fields_of : C8.Cal P w K mg base 1 "fields_of" (toSp K ca aspFO) []) : FnOk P w K mg base CX0 2 f fd ["question", "card", "field"] (toSp K ca aspPN) := by
  refine F.ok sc__place_named (fun vs H Q E h => sp_len (n := 3) (fun ds P a => by obtain ⟨_, _, _, _, _, rfl, _⟩ := a; rfl) h) (fun cdv A outer s H vs Q E hr h => ⟨_, (pss_cons (ps_set (i := 3) sc__place_named.nd rfl (.inl rfl) (kbm (K := K) rfl PySem.F.plainAttrs_list PySem.F.slot_list_index PySem.F.type_list_index (kindex (K := K) rfl) (pe_lc (own := [("name", 4), ("_", 5), ("_", 5)]) (tt := tYes) rfl sc__place_named.nd (kpit (K := K) rfl (kfld (K := K) rfl (kfld (K := K) rfl (pv 0)))) (blkOk_by (N := ["question", "card", "field", "card_index", "name", "_"]) (sc := defScope s__place_named) (by decide +kernel))
        (fun _ _ _ _ _ => (kgtup (K := K) (n := 3) rfl rfl (pgs_cons (pg_name (i := 4) sc__place_named.nd rfl (.inl rfl)) (pgs_cons (pg_name (i := 5) sc__place_named.nd rfl (.inl rfl)) (pgs_cons (pg_name (i := 5) sc__place_named.nd rfl (.inl rfl)) pgs_nil))))) (fun _ _ _ _ _ => pts_nil)
        (fun _ _ _ _ _ => (pv 4))) (pa_cons (pv 1) pa_nil)))
      (pss_one (ps_ret (pe_tupF (pa_cons (pv 3) (pa_cons (kbm (K := K) rfl PySem.F.plainAttrs_list PySem.F.slot_list_index PySem.F.type_list_index (kindex (K := K) rfl) (pe_lc (own := [("name", 4), ("_", 5)]) (tt := tYes) rfl sc__place_named.nd (kpit (K := K) rfl (C8.pe_c C_fields_of hr (by omega) rfl (pa_cons (pv 0) (pa_cons (pv 3) pa_nil)))) (blkOk_by (N := ["question", "card", "field", "card_index", "name", "_"]) (sc := defScope s__place_named) (by decide +kernel))
        (fun _ _ _ _ _ => (kgtup (K := K) (n := 2) rfl rfl (pgs_cons (pg_name (i := 4) sc__place_named.nd rfl (.inl rfl)) (pgs_cons (pg_name (i := 5) sc__place_named.nd rfl (.inl rfl)) pgs_nil)))) (fun _ _ _ _ _ => pts_nil)
        (fun _ _ _ _ _ => (pv 4))) (pa_cons (pv 2) pa_nil)) pa_nil)))))),
    fn_run h (fun po => (s_seq (s_set fun _ => (a_indexL (a_pk (a_fz (a_lc (vs := [4, 5, 5]) (i_tup (a_fld T8.cl T8.n_cards (c := 8) (i := 0) rfl (a_fld T9.cl T9.n_policy (c := 9) (i := 2) rfl a_var))) (g_tup (g_cons (g_name (by decide)) (g_cons (g_name (by decide)) (g_cons (g_name (by decide)) g_nil tot_name) tot_name) tot_name)) a_yes a_var))) a_var))
      (s_ret fun _ => (a_tup (a_cons a_var (a_cons (a_indexL (a_pk (a_fz (a_lc (vs := [4, 5]) (i_tup (a_call (a_cons a_var (a_cons a_var a_nil)))) (g_tup (g_cons (g_name (by decide)) (g_cons (g_name (by decide)) g_nil tot_name) tot_name)) a_yes a_var))) a_var) a_nil)))))) (fun ds P a => by obtain ⟨_, _, _, _, _, rfl, _⟩ := a; exact Nat.le_of_ble_eq_true rfl) ?_⟩)
  rintro ds P ⟨cm, mm, s, cn, fn, rfl, ⟨ok, c3, hpl⟩, hp⟩
  obtain ⟨c, f, h1, h2, h3, h4, h5, h6⟩ := hpl.at_ ok.nd
  have lc := ok.lc
  refine seqG fun N hN => ?_
  walk_at "dw"
  unfold aIndexL
  walk_at "dw"
  rw [kq_pol, kp_cards]
  walk_at "dw"
  refine ⟨by rw [List.length_map]; omega, ?_⟩
  refine lcA_mapL (g := fun c : Cd => Dat.str c.nm) (fun c hc Q hQ => ?_) ?_
  · unfold cdD
    walk_at "dw"
    exact hQ
  walk_at "dw"
  refine ⟨rfl, List.all_eq_true.mpr fun d hd => (by obtain ⟨x, _, rfl⟩ := List.mem_map.mp hd; rfl), (plO s cn fn).1, by rw [List.getElem?_map, h1, Option.map_some, h2], fun m hm hx => ?_, ?_⟩
  · rw [List.getElem?_map] at hx
    cases g : s.cs[m]? with
    | none =>
      rw [g] at hx
      cases hx
    | some y =>
      rw [g] at hx
      exact h3 m hm y g (by injection hx with hx; injection hx)
  subst hN
  walk_at "dw"
  unfold aIndexL
  walk_at "dw"
  refine ⟨s, _, c, rfl, ⟨ok.kok, h1, (ok.cd c (List.mem_of_getElem? h1)).2.1⟩, ?_⟩
  have k4 : (kfS s.ks c).length ≤ 4 := by
    obtain ⟨kf, mk⟩ := (ok.cd c (List.mem_of_getElem? h1)).2.1
    unfold kfS
    rw [lkK_of ok.kok mk]
    exact (ok.kok.fs _ mk).1
  walk_at "dw"
  refine ⟨by rw [List.length_map]; omega, ?_⟩
  refine lcA_mapL (g := fun f : Fld => Dat.str f.1) (fun x hx Q hQ => ?_) ?_
  · unfold fmD
    walk_at "dw"
    exact hQ
  walk_at "dw"
  refine ⟨rfl, List.all_eq_true.mpr fun d hd => (by obtain ⟨x, _, rfl⟩ := List.mem_map.mp hd; rfl), (plO s cn fn).2, by rw [List.getElem?_map, h4, Option.map_some, h5], fun m hm hx => ?_, hp⟩
  rw [List.getElem?_map] at hx
  cases g : (kfS s.ks c)[m]? with
  | none =>
    rw [g] at hx
    cases hx
  | some y =>
    rw [g] at hx
    exact h6 m hm y g (by injection hx with hx; injection hx)
def aspCO : ASp := fun ds P => ∃ (cm mm : Nat) (s : Sc), ds = [quD s] ∧ (ScOk cm mm s ∧ cm ≤ 3 ∧ mm ≤ 10) ∧ P (.lst (s.co.map (cofD s)))
theorem ok_conditions_of {f : Addr} {fd : FuncData} (F : Fun K "conditions_of" "conditions_of" s_conditions_of f fd) (T8 : PoT K (ca 8)) (T9 : QuT K (ca 9)) (B : Blt mg) (C__place_named : C8.Cal P w K mg base 2 "_place_named" (toSp K ca aspPN) []) : FnOk P w K mg base CX0 3 f fd ["question"] (toSp K ca aspCO) := by
  refine F.ok sc_conditions_of (fun vs H Q E h => sp_len (n := 1) (fun ds P a => by obtain ⟨_, _, _, rfl, _⟩ := a; rfl) h) (fun cdv A outer s H vs Q E hr h => ⟨_, (pss_cons (ps_set (i := 1) sc_conditions_of.nd rfl (.inl rfl) (pe_lst pa_nil))
      (pss_cons (ps_for PassesOwn.never rfl (kpit (K := K) rfl (kfld (K := K) rfl (kfld (K := K) rfl (pv 0)))) (pg_tupS (K := K) (n := 3) rfl rfl (pgs_cons (pg_name (i := 2) sc_conditions_of.nd rfl (.inl rfl)) (pgs_cons (pg_name (i := 3) sc_conditions_of.nd rfl (.inl rfl)) (pgs_cons (pg_name (i := 4) sc_conditions_of.nd rfl (.inl rfl)) (pgs_star (pg_name (i := 5) sc_conditions_of.nd rfl (.inl rfl)) pgs_nil)))))
      (pss_cons (ps_set (i := 6) sc_conditions_of.nd rfl (.inl rfl) (C8.pe_c C__place_named hr (by omega) rfl (pa_cons (pv 0) (pa_cons (pv 3) (pa_cons (pv 4) pa_nil)))))
      (pss_one (ps_if (pt_cmpR op_eq (pv 2) pe_str (nomark _)) (pss_one (ps_expr (pe_bm PySem.F.plainAttrs_list PySem.F.slot_list_append PySem.F.type_list_append mt_append (pv 1) (pa_cons (pe_tupF (pa_cons (pv 2) (pa_cons (pv 6) (pa_cons pe_non pa_nil)))) pa_nil)))) (pss_one (ps_if (pt_cmpR op_eq (pv 2) pe_str (nomark _)) (pss_one (ps_expr (pe_bm PySem.F.plainAttrs_list PySem.F.slot_list_append PySem.F.type_list_append mt_append (pv 1) (pa_cons (pe_tupF (pa_cons (pv 2) (pa_cons (pv 6) (pa_cons (C8.pe_c C__place_named hr (by omega) rfl (pa_cons (pv 0) (pa_cons (pe_ix (kixs (K := K) rfl) (pv 5) pe_int (fun _ _ => rfl)) (pa_cons (pe_ix (kixs (K := K) rfl) (pv 5) pe_int (fun _ _ => rfl)) pa_nil)))) pa_nil)))) pa_nil)))) (pss_one (ps_expr (pe_bm PySem.F.plainAttrs_list PySem.F.slot_list_append PySem.F.type_list_append mt_append (pv 1) (pa_cons (pe_tupF (pa_cons (pv 2) (pa_cons (pv 6) (pa_cons (pe_ix (kixs (K := K) rfl) (pv 5) pe_int (fun _ _ => rfl)) pa_nil)))) pa_nil))))))))))
      (pss_one (ps_ret (pv 1))))),
    fn_run h (fun po => (s_seq (s_setO fun _ => (a_lst a_nil))
      (s_seq (s_forT (fun _ => (i_tup (a_fld T8.cl T8.n_conditions (c := 8) (i := 1) rfl (a_fld T9.cl T9.n_policy (c := 9) (i := 2) rfl a_var)))) (fun _ => (g_tupS (n := 3) (g_cons (g_name (vs := [2, 3, 4, 5]) (i := 2) (by decide)) (g_cons (g_name (vs := [2, 3, 4, 5]) (i := 3) (by decide)) (g_cons (g_name (vs := [2, 3, 4, 5]) (i := 4) (by decide)) (g_cons (g_name (vs := [2, 3, 4, 5]) (i := 5) (by decide)) g_nil tot_name) tot_name) tot_name) tot_name)))
      (s_seq (s_set fun _ => (a_call (a_cons a_var (a_cons a_var (a_cons a_var a_nil)))))
      (s_if (fun _ => (a_test (a_op pst_rv rok_eq a_var a_str))) (s_app fun _ => (a_tup (a_cons a_var (a_cons a_var (a_cons a_non a_nil))))) (s_if (fun _ => (a_test (a_op pst_rv rok_eq a_var a_str))) (s_app fun _ => (a_tup (a_cons a_var (a_cons a_var (a_cons (a_call (a_cons a_var (a_cons (a_op pst_pk rok_ix (a_pk a_var) a_int) (a_cons (a_op pst_pk rok_ix (a_pk a_var) a_int) a_nil)))) a_nil))))) (s_app fun _ => (a_tup (a_cons a_var (a_cons a_var (a_cons (a_op pst_pk rok_ix (a_pk a_var) a_int) a_nil)))))))))
      (s_fz (i := 1) (s_ret fun _ => a_var))))) (fun ds P a => by obtain ⟨_, _, _, rfl, _⟩ := a; exact Nat.le_of_ble_eq_true rfl) ?_⟩)
  rintro ds P ⟨cm, mm, s, rfl, ⟨ok, c3, m10⟩, hp⟩
  have lo := ok.lo
  refine seqG fun N hN => ?_
  walk_at "dw"
  subst hN
  refine seqG fun N hN => ?_
  walk_at "dw"
  rw [kq_pol, kp_conds]
  walk_at "dw"
  have hSt : ∃ W : List Cnd → List Sl → Prop, ∀ xs env, W xs env ↔ ∃ (dn : List Cnd) (t2 t3 t4 t5 t6 : Sl), env = [Sl.d (quD s), Sl.o (dn.map (cofD s)), t2, t3, t4, t5, t6] ∧ dn ++ xs = s.co := ⟨_, fun _ _ => Iff.rfl⟩
  obtain ⟨W, hW⟩ := hSt
  refine forA_suf (f := cndD) W ?_ ?_ s.co _ ((hW _ _).mpr ⟨[], _, _, _, _, _, rfl, rfl⟩)
  · intro x xs env w N2 hN2
    obtain ⟨dn, t2, t3, t4, t5, t6, rfl, edn⟩ := (hW _ _).mp w
    clear w
    have mx : x ∈ s.co := by rw [← edn]; exact List.mem_append.mpr (.inr List.mem_cons_self)
    have hpl := cnd_pl (ok.cn x mx)
    have ld : dn.length ≤ 10 := by
      have := congrArg List.length edn
      rw [List.length_append] at this
      omega
    have go : ∀ t2 t3 t4 t5 t6 : Sl, N2 [Sl.d (quD s), Sl.o (dn.map (cofD s) ++ [cofD s x]), t2, t3, t4, t5, t6] := fun t2 t3 t4 t5 t6 => hN2 _ ((hW _ _).mpr ⟨dn ++ [x], t2, t3, t4, t5, t6, by rw [List.map_append]; rfl, by rw [List.append_assoc]; exact edn⟩)
    clear hN2 hW W
    cases x with
    | tell c f =>
      unfold cndD
      walk_at "dw"
      refine ⟨by decide, by decide, ?_⟩
      walk_at "dw"
      refine seqG fun N3 hN3 => ?_
      walk_at "dw"
      refine ⟨cm, mm, s, c, f, rfl, ⟨ok, c3, hpl⟩, ?_⟩
      subst hN3
      walk_at "dw"
      exact ⟨by rw [List.length_map]; omega, go _ _ _ _ _⟩
    | equal c f n =>
      unfold cndD
      walk_at "dw"
      refine ⟨by decide, by decide, ?_⟩
      walk_at "dw"
      refine seqG fun N3 hN3 => ?_
      walk_at "dw"
      refine ⟨cm, mm, s, c, f, rfl, ⟨ok, c3, hpl⟩, ?_⟩
      subst hN3
      walk_at "dw"
      exact ⟨by rw [List.length_map]; omega, go _ _ _ _ _⟩
    | least c f n =>
      unfold cndD
      walk_at "dw"
      refine ⟨by decide, by decide, ?_⟩
      walk_at "dw"
      refine seqG fun N3 hN3 => ?_
      walk_at "dw"
      refine ⟨cm, mm, s, c, f, rfl, ⟨ok, c3, hpl⟩, ?_⟩
      subst hN3
      walk_at "dw"
      exact ⟨by rw [List.length_map]; omega, go _ _ _ _ _⟩
    | among c f ns =>
      unfold cndD
      walk_at "dw"
      refine ⟨by decide, by decide, ?_⟩
      walk_at "dw"
      refine seqG fun N3 hN3 => ?_
      walk_at "dw"
      refine ⟨cm, mm, s, c, f, rfl, ⟨ok, c3, hpl⟩, ?_⟩
      subst hN3
      walk_at "dw"
      exact ⟨by rw [List.length_map]; omega, go _ _ _ _ _⟩
    | same c f c2 f2 =>
      unfold cndD
      walk_at "dw"
      refine ⟨by decide, by decide, ?_⟩
      walk_at "dw"
      refine seqG fun N3 hN3 => ?_
      walk_at "dw"
      refine ⟨cm, mm, s, c, f, rfl, ⟨ok, c3, hpl.1⟩, ?_⟩
      subst hN3
      walk_at "dw"
      refine ⟨by rw [List.length_map]; omega, cm, mm, s, c2, f2, rfl, ⟨ok, c3, hpl.2⟩, ?_⟩
      walk_at "dw"
      exact go _ _ _ _ _
  · intro env w
    obtain ⟨dn, t2, t3, t4, t5, t6, rfl, edn⟩ := (hW _ _).mp w
    rw [List.append_nil] at edn
    subst edn
    show N _
    subst hN
    walk_at "dw"
    exact hp
end
def pkO (x : Pk3) : Dat := .obj 7 [.int x.row, .int x.rd, .tup (x.vs.map .int)]
def lookP (ps : List Pk3) (x : Nat × Nat) : Option Int := ps[x.1]?.bind fun p => p.vs[x.2]?
def meetB (s : Sc) (look : Nat × Nat → Option Int) : Cnd → Bool
  | .tell _ _ => true
  | .equal c f n => match look (plO s c f) with
    | some v => decide (v = n)
    | none => true
  | .least c f n => match look (plO s c f) with
    | some v => decide (n ≤ v)
    | none => true
  | .among c f ns => match look (plO s c f) with
    | some v => decide (v ∈ ns)
    | none => true
  | .same c f c2 f2 => match look (plO s c f) with
    | some v => decide (look (plO s c2 f2) = some v)
    | none => true
section
variable {s : Sc} {look : Nat × Nat → Option Int} {c f c2 f2 : Str} {n v : Int} {ns : List Int}
theorem mb_e0 (h : look (plO s c f) = none) : meetB s look (.equal c f n) = true := by unfold meetB; dsimp only; rw [h]
theorem mb_l0 (h : look (plO s c f) = none) : meetB s look (.least c f n) = true := by unfold meetB; dsimp only; rw [h]
theorem mb_a0 (h : look (plO s c f) = none) : meetB s look (.among c f ns) = true := by unfold meetB; dsimp only; rw [h]
theorem mb_s0 (h : look (plO s c f) = none) : meetB s look (.same c f c2 f2) = true := by unfold meetB; dsimp only; rw [h]
theorem mb_e (h : look (plO s c f) = some v) : meetB s look (.equal c f n) = decide (v = n) := by unfold meetB; dsimp only; rw [h]
theorem mb_l (h : look (plO s c f) = some v) : meetB s look (.least c f n) = decide (n ≤ v) := by unfold meetB; dsimp only; rw [h]
theorem mb_a (h : look (plO s c f) = some v) : meetB s look (.among c f ns) = decide (v ∈ ns) := by unfold meetB; dsimp only; rw [h]
theorem mb_s (h : look (plO s c f) = some v) (h2 : look (plO s c2 f2) = some n) : meetB s look (.same c f c2 f2) = decide (v = n) := by
  unfold meetB; dsimp only
  rw [h, h2]
  by_cases e : v = n
  · rw [e]
    simp
  · have e2 : ¬ n = v := fun z => e z.symm
    simp [e, e2]
end
inductive LetsR : Str → Dat → Int → Bool → Prop
  | equal (n v : Int) : LetsR "equal" (.int n) v (decide (v = n))
  | same (n v : Int) : LetsR "same" (.int n) v (decide (v = n))
  | least (n v : Int) : LetsR "least" (.int n) v (decide (n ≤ v))
  | among (ns : List Int) (v : Int) : LetsR "among" (.tup (ns.map .int)) v (decide (v ∈ ns))
  | tell (v : Int) : LetsR "tell" .non v true
theorem putTK_cons {x k : List Int} {ks : List (List Int)} : putTK (x :: ks) k = if x = k then x :: ks else x :: putTK ks k := by
  unfold putTK
  by_cases z : x = k
  · rw [if_pos z, if_pos (by rw [z]; exact List.mem_cons_self)]
  · rw [if_neg z]
    by_cases h : k ∈ ks
    · rw [if_pos h, if_pos (List.mem_cons_of_mem _ h)]
    · rw [if_neg h, if_neg (fun y => (List.mem_cons.mp y).elim (fun e => z e.symm) h)]
      rfl
theorem dgT_put {k j : List Int} {d : Dat} : ∀ {ks : List (List Int)} {ds : List Dat}, ks.length = ds.length → dgT (putTK ks k) (putTD ks ds k d) j = (if k = j then some d else dgT ks ds j) ∧ (putTK ks k).length = (putTD ks ds k d).length ∧ (putTK ks k).length ≤ ks.length + 1
  | [], [], _ => ⟨rfl, rfl, Nat.le_refl _⟩
  | x :: ks, e :: ds, h => by
    rw [putTK_cons]
    show dgT _ (if x = k then _ else _) _ = _ ∧ _ = (if x = k then _ else _ : List Dat).length ∧ _
    by_cases z : x = k
    · subst z
      rw [if_pos rfl, if_pos rfl]
      refine ⟨?_, h, Nat.le_succ _⟩
      show (if x = j then _ else _) = (if x = j then _ else (if x = j then _ else _))
      by_cases g : x = j
      · rw [if_pos g, if_pos g]
      · rw [if_neg g, if_neg g, if_neg g]
    · rw [if_neg z, if_neg z]
      obtain ⟨h1, h2, h3⟩ := dgT_put (k := k) (j := j) (d := d) (ks := ks) (ds := ds) (Nat.succ.inj h)
      refine ⟨?_, congrArg (· + 1) h2, Nat.succ_le_succ h3⟩
      show (if x = j then _ else _) = (if k = j then _ else (if x = j then _ else _))
      rw [h1]
      by_cases g : x = j
      · rw [if_pos g, if_pos g, if_neg (fun y => z (g.trans y.symm))]
      · rw [if_neg g, if_neg g]
  | [], _ :: _, h => by cases h
  | _ :: _, [], h => by cases h
theorem kIn_ss {x : Str} {xs : List Str} {b : Bool} {P : Dat → Prop} (hb : b = true ↔ x ∈ xs) (h : P (.bl b)) : kIn false (.str x) (.tup (xs.map .str)) P := by
  refine ⟨rfl, List.all_eq_true.mpr fun d hd => (by obtain ⟨x, _, rfl⟩ := List.mem_map.mp hd; rfl), fun c hc => ?_⟩
  have e : c = b := by
    rw [Bool.eq_iff_iff, hc, hb]
    constructor
    · intro m
      obtain ⟨y, hy, e⟩ := List.mem_map.mp m
      cases e
      exact hy
    · exact fun m => List.mem_map.mpr ⟨x, m, rfl⟩
  rw [if_neg (by decide), e]
  exact h
section
variable {P : Program} {w : World} {K : PySem.W.Frag} {mg : Str → Option Value} {base : Heap} {ca : Nat → Addr}
def aspLets : ASp := fun ds P => ∃ (wd : Str) (r : Dat) (v : Int) (b : Bool), ds = [.str wd, r, .int v] ∧ LetsR wd r v b ∧ P (.bl b)
theorem ok_lets {f : Addr} {fd : FuncData} (F : Fun K "_lets" "_lets" s__lets f fd) : FnOk P w K mg base CX0 1 f fd ["word", "rest", "number"] (toSp K ca aspLets) := by
  refine F.ok sc__lets (fun vs H Q E h => sp_len (n := 3) (fun ds P a => by obtain ⟨_, _, _, _, rfl, _⟩ := a; rfl) h) (fun cdv A outer s H vs Q E hr h => ⟨_, (pss_cons (ps_if (pt_cmpR (kin (K := K) rfl) (pv 0) (pe_tupF (pa_cons pe_str (pa_cons pe_str pa_nil))) rfl) (pss_one (ps_ret (pe_cmpR op_eq (pv 2) (pv 1) (nomark _)))) pss_nil)
      (pss_cons (ps_if (pt_cmpR op_eq (pv 0) pe_str (nomark _)) (pss_one (ps_ret (pe_cmpR op_ge (pv 2) (pv 1) (nomark _)))) pss_nil)
      (pss_one (ps_ret (pe_or (pe_cmpR op_eq (pv 0) pe_str (nomark _)) (pe_one (pe_cmpR (kin (K := K) rfl) (pv 2) (pv 1) rfl))))))),
    fn_run h (fun po => (s_seq (s_if (fun _ => (a_test (a_op pst_rv rok_in a_var (a_pk (a_tup (a_cons a_str (a_cons a_str a_nil))))))) (s_ret fun _ => (a_op pst_rv rok_eq a_var a_var)) s_next)
      (s_seq (s_if (fun _ => (a_test (a_op pst_rv rok_eq a_var a_str))) (s_ret fun _ => (a_op pst_rv rok_B0 a_var a_var)) s_next)
      (s_ret fun _ => (a_orV (a_op pst_rv rok_eq a_var a_str) (a_op pst_rv rok_in a_var (a_pk a_var))))))) (fun ds P a => by obtain ⟨_, _, _, _, rfl, _⟩ := a; exact Nat.le_of_ble_eq_true rfl) ?_⟩)
  rintro ds P ⟨wd, r, v, b, rfl, hr, hp⟩
  refine seqG fun N hN => ?_
  walk_at "dw"
  cases hr with
  | equal n =>
    refine kIn_ss (xs := ["equal", "same"]) (b := true) (by simp [ofS_inj]) ?_
    walk_at "dw"
    exact hp
  | same n =>
    refine kIn_ss (xs := ["equal", "same"]) (b := true) (by simp [ofS_inj]) ?_
    walk_at "dw"
    exact hp
  | least n =>
    refine kIn_ss (xs := ["equal", "same"]) (b := false) (by simp [ofS_inj]) ?_
    walk_at "dw"
    subst hN
    refine seqG fun N hN => ?_
    walk_at "dw"
    exact hp
  | among ns =>
    refine kIn_ss (xs := ["equal", "same"]) (b := false) (by simp [ofS_inj]) ?_
    walk_at "dw"
    subst hN
    refine seqG fun N hN => ?_
    walk_at "dw"
    subst hN
    walk_at "dw"
    refine (show kIn false (.int v) (.lst (ns.map .int)) P from kIn_i ?_)
    rw [if_neg (by decide)]
    exact hp
  | tell =>
    refine kIn_ss (xs := ["equal", "same"]) (b := false) (by simp [ofS_inj]) ?_
    walk_at "dw"
    subst hN
    refine seqG fun N hN => ?_
    walk_at "dw"
    subst hN
    walk_at "dw"
    exact hp
def aspMC : ASp := fun ds P => ∃ (cm mm : Nat) (s : Sc) (ks : List (List Int)) (vs : List Dat) (look : Nat × Nat → Option Int), ds = [quD s, .dT ks vs] ∧ (ScOk cm mm s ∧ cm ≤ 3 ∧ mm ≤ 10) ∧ (∀ x : Nat × Nat, dgT ks vs [(x.1 : Int), (x.2 : Int)] = (look x).map Dat.int) ∧
  (∀ c f c2 f2, Cnd.same c f c2 f2 ∈ s.co → (look (plO s c f)).isSome = true → (look (plO s c2 f2)).isSome = true) ∧ P (.bl (s.co.all (meetB s look)))
theorem ok_meet {f : Addr} {fd : FuncData} (F : Fun K "meet_conditions" "meet_conditions" s_meet_conditions f fd) (C_conditions_of : C8.Cal P w K mg base 3 "conditions_of" (toSp K ca aspCO) []) (C__lets : C8.Cal P w K mg base 1 "_lets" (toSp K ca aspLets) []) : FnOk P w K mg base CX0 4 f fd ["question", "numbers"] (toSp K ca aspMC) := by
  refine F.ok sc_meet_conditions (fun vs H Q E h => sp_len (n := 2) (fun ds P a => by obtain ⟨_, _, _, _, _, _, rfl, _⟩ := a; rfl) h) (fun cdv A outer s H vs Q E hr h => ⟨_, (pss_cons (ps_for PassesOwn.never rfl (kpil (K := K) rfl (C8.pe_c C_conditions_of hr (by omega) rfl (pa_cons (pv 0) pa_nil))) (kgtup (K := K) (n := 3) rfl rfl (pgs_cons (pg_name (i := 2) sc_meet_conditions.nd rfl (.inl rfl)) (pgs_cons (pg_name (i := 3) sc_meet_conditions.nd rfl (.inl rfl)) (pgs_cons (pg_name (i := 4) sc_meet_conditions.nd rfl (.inl rfl)) pgs_nil))))
      (pss_one (ps_if (pt_cmp (pc_tin (hu_of hr) (pv 3) (pv 1))) (pss_cons (ps_set (i := 5) sc_meet_conditions.nd rfl (.inl rfl) (pe_ifExp (pt_cmpR op_eq (pv 2) pe_str (nomark _)) (pe_tget (hu_of hr) (pv 1) (pv 4) (fun _ _ => rfl)) (pv 4)))
      (pss_one (ps_if (pt_not (pt_val (C8.pe_c C__lets hr (by omega) rfl (pa_cons (pv 2) (pa_cons (pv 5) (pa_cons (pe_tget (hu_of hr) (pv 1) (pv 3) (fun _ _ => rfl)) pa_nil)))))) (pss_one (ps_ret pe_bl)) pss_nil))) pss_nil)))
      (pss_one (ps_ret pe_bl))),
    fn_run h (fun po => (s_seq (s_for (vs := [2, 3, 4]) (fun _ => (i_list (a_call (a_cons a_var a_nil)))) (fun _ => (g_tup (g_cons (g_name (by decide)) (g_cons (g_name (by decide)) (g_cons (g_name (by decide)) g_nil tot_name) tot_name) tot_name)))
      (s_if (fun _ => (a_test (a_tin a_var a_var))) (s_seq (s_set fun _ => (a_if (a_test (a_op pst_rv rok_eq a_var a_str)) (a_tget a_var a_var) a_var))
      (s_if (fun _ => (a_not (a_tb (a_call (a_cons a_var (a_cons a_var (a_cons (a_tget a_var a_var) a_nil))))))) (s_ret fun _ => a_bl) s_next)) s_next))
      (s_ret fun _ => a_bl))) (fun ds P a => by obtain ⟨_, _, _, _, _, _, rfl, _⟩ := a; exact Nat.le_of_ble_eq_true rfl) ?_⟩)
  rintro ds P ⟨cm, mm, s, ks, vs, look, rfl, ⟨ok, c3, m10⟩, hl, hsm, hp⟩
  refine seqG fun N hN => ?_
  walk_at "dw"
  refine ⟨cm, mm, s, rfl, ⟨ok, c3, m10⟩, ?_⟩
  walk_at "dw"
  have hSt : ∃ W : List Cnd → List Sl → Prop, ∀ xs env, W xs env ↔ ∃ (dn : List Cnd) (t2 t3 t4 t5 : Sl), env = [Sl.d (quD s), Sl.d (.dT ks vs), t2, t3, t4, t5] ∧ dn ++ xs = s.co ∧ dn.all (meetB s look) = true := ⟨_, fun _ _ => Iff.rfl⟩
  obtain ⟨W, hW⟩ := hSt
  refine forA_suf (f := cofD s) W ?_ ?_ s.co _ ((hW _ _).mpr ⟨[], _, _, _, _, rfl, rfl, rfl⟩)
  · intro x xs env w N2 hN2
    obtain ⟨dn, t2, t3, t4, t5, rfl, edn, hdn⟩ := (hW _ _).mp w
    clear w
    have mx : x ∈ s.co := by rw [← edn]; exact List.mem_append.mpr (.inr List.mem_cons_self)
    have yes : meetB s look x = true → ∀ t2 t3 t4 t5 : Sl, N2 [Sl.d (quD s), Sl.d (.dT ks vs), t2, t3, t4, t5] := fun h t2 t3 t4 t5 => hN2 _ ((hW _ _).mpr ⟨dn ++ [x], t2, t3, t4, t5, rfl, by rw [List.append_assoc]; exact edn, by rw [List.all_append, hdn, List.all_cons, h]; rfl⟩)
    have no : meetB s look x = false → P (.bl false) := fun h => by
      have e : s.co.all (meetB s look) = false := by
        rw [← edn, List.all_append, List.all_cons, h, Bool.false_and, Bool.and_false]
      rw [e] at hp
      exact hp
    clear hN2 hW W
    have key : ∀ (wd : Str) (pl : Nat × Nat) (r : Dat), cofD s x = .tup [.str wd, plcD pl, r] → (look pl = none → meetB s look x = true) → (∀ v, look pl = some v → wd ≠ "same" → LetsR wd r v (meetB s look x)) →
        (∀ v, look pl = some v → wd = "same" → ∃ (p2 : Nat × Nat) (n : Int), r = plcD p2 ∧ look p2 = some n ∧ LetsR wd (.int n) v (meetB s look x)) →
        gTu (gConsA (gA 2) (gConsA (gA 3) (gConsA (gA 4) gNilA))) (cofD s x) [Sl.d (quD s), Sl.d (.dT ks vs), t2, t3, t4, t5] (fun env2 => sIf (aTest (aTIn false (aVar 3) (aVar 1))) (sSeq (sAsg (aIf (aTest (a2 (kEq false) (aVar 2) (aC (Dat.str (Str.ofString "same"))))) (a2 kTGet (aVar 1) (aVar 4)) (aVar 4)) (gA 5)) (sIf (aNot (aTest (aCall aspLets (aCons (aVar 2) (aCons (aVar 5) (aCons (a2 kTGet (aVar 1) (aVar 3)) aNil)))))) (sRet (aC (Dat.bl false))) sNext)) sNext { nx := N2, rt := P, bk := N, ct := N2 } env2) := by
      intro wd pl r e h0 h1 h2
      rw [e]
      unfold plcD
      walk_at "dw"
      rw [hl]
      cases g : look pl with
      | none =>
        walk_at "dw"
        exact yes (h0 g) _ _ _ _
      | some v =>
        walk_at "dw"
        refine seqG fun N3 hN3 => ?_
        walk_at "dw"
        have fin : ∀ r2 : Dat, LetsR wd r2 v (meetB s look x) → N3 [Sl.d (quD s), Sl.d (Dat.dT ks vs), Sl.d (Dat.str wd), Sl.d (Dat.tup [Dat.int pl.1, Dat.int pl.2]), Sl.d r, Sl.d r2] := fun r2 hr => by
          subst hN3
          walk_at "dw"
          rw [hl, g]
          refine ⟨wd, r2, v, _, rfl, hr, ?_⟩
          walk_at "dw"
          cases hb : meetB s look x with
          | true => exact yes hb _ _ _ _
          | false => exact no hb
        refine twoD (fun e => ?_) (fun e => ?_)
        · obtain ⟨p2, n, rfl, e2, hr⟩ := h2 v g e
          unfold plcD
          walk_at "dw"
          rw [hl, e2]
          exact fin _ hr
        · exact fin _ (h1 v g e)
    have ne : ∀ {a b : String}, a ≠ b → (Str.ofString a = Str.ofString b → False) := fun {a b} h e => by
      rw [ofS_inj] at e
      exact h e
    cases x with
    | tell c f => exact key "tell" (plO s c f) .non rfl (fun _ => rfl) (fun v _ _ => .tell v) (fun v _ e => (ne (by decide) e).elim)
    | equal c f n => exact key "equal" (plO s c f) (.int n) rfl mb_e0 (fun v h _ => by rw [mb_e h]; exact .equal n v) (fun v _ e => (ne (by decide) e).elim)
    | least c f n => exact key "least" (plO s c f) (.int n) rfl mb_l0 (fun v h _ => by rw [mb_l h]; exact .least n v) (fun v _ e => (ne (by decide) e).elim)
    | among c f ns => exact key "among" (plO s c f) (.tup (ns.map .int)) rfl mb_a0 (fun v h _ => by rw [mb_a h]; exact .among ns v) (fun v _ e => (ne (by decide) e).elim)
    | same c f c2 f2 =>
      refine key "same" (plO s c f) (plcD (plO s c2 f2)) rfl mb_s0 (fun v _ e => absurd rfl e) (fun v h _ => ?_)
      obtain ⟨n, hn⟩ := Option.isSome_iff_exists.mp (hsm c f c2 f2 mx (by rw [h]; rfl))
      refine ⟨_, n, rfl, hn, ?_⟩
      rw [mb_s h hn]
      exact .same n v
  · intro env w
    obtain ⟨dn, t2, t3, t4, t5, rfl, edn, hdn⟩ := (hW _ _).mp w
    rw [List.append_nil] at edn
    subst edn
    show N _
    subst hN
    walk_at "dw"
    rw [hdn] at hp
    exact hp
end
abbrev s_Pick___init__ : Stmt := inClass (top 26) 0
theorem sc_Pick___init__ : FnScope ["self", "row", "randomness", "numbers"] ["self", "row", "randomness", "numbers"] (defScope s_Pick___init__) := ⟨rfl, rfl, rfl, by decide +kernel, rfl, by decide +kernel, by decide +kernel⟩
abbrev s_answers : Stmt := top 27
theorem sc_answers : FnScope ["question", "picks", "numbers", "card", "pick", "field", "number"] ["question", "picks"] (defScope s_answers) := ⟨rfl, rfl, rfl, by decide +kernel, rfl, by decide +kernel, by decide +kernel⟩
/-- picks with as many values as their kinds have fields -/
structure PsOk (s : Sc) (ps : List Pk3) : Prop where
  ln : ps.length = s.cs.length
  at_ : ∀ (k : Nat) c p, s.cs[k]? = some c → ps[k]? = some p → p.vs.length = (kfS s.ks c).length
theorem ite_iff {α : Type} {p q : Prop} [Decidable p] [Decidable q] {a b : α} (h : p ↔ q) : (if p then a else b) = if q then a else b := by
  by_cases z : p
  · rw [if_pos z, if_pos (h.mp z)]
  · rw [if_neg z, if_neg fun y => z (h.mpr y)]
theorem kfS_le {cm mm : Nat} {s : Sc} (ok : ScOk cm mm s) {c : Cd} (h : c ∈ s.cs) : (kfS s.ks c).length ≤ 4 := by
  obtain ⟨kf, mk⟩ := (ok.cd c h).2.1
  unfold kfS
  rw [lkK_of ok.kok mk]
  exact (ok.kok.fs _ mk).1
theorem look_has {s : Sc} {ps : List Pk3} {cn fn : Str} (ok : PsOk s ps) (h : HasPl s cn fn) (nd : (s.cs.map (·.nm)).Nodup) : (lookP ps (plO s cn fn)).isSome = true := by
  obtain ⟨c, f, h1, _, _, h4, _⟩ := h.at_ nd
  have l1 := (List.getElem?_eq_some_iff.mp h1).1
  have l2 := (List.getElem?_eq_some_iff.mp h4).1
  have e := List.getElem?_eq_getElem (l := ps) (i := (plO s cn fn).1) (by rw [ok.ln]; exact l1)
  have l3 := ok.at_ _ _ _ h1 e
  unfold lookP
  rw [e, Option.bind_some, List.getElem?_eq_getElem (by rw [l3]; exact l2)]
  rfl
section
variable {P : Program} {w : World} {K : PySem.W.Frag} {mg : Str → Option Value} {base : Heap} {ca : Nat → Addr}
def aspPkI : ASpI := fun ds P => ∃ x : Pk3, ds = [.int x.row, .int x.rd, .tup (x.vs.map .int)] ∧ P [.int x.row, .int x.rd, .tup (x.vs.map .int)]
theorem ok_pk_init {f : Addr} {fd : FuncData} (F : Fun K "__init__" "Pick.__init__" s_Pick___init__ f fd) (T7 : PkT K (ca 7)) (B : Blt mg) : FnOk P w K mg base CX0 1 f fd ["self", "row", "randomness", "numbers"] (toSpI K ca 7 aspPkI) := by
  refine F.ok sc_Pick___init__ (fun vs H Q E h => sp_lenI (n := 3) (fun ds P a => by obtain ⟨_, rfl, _⟩ := a; rfl) h) (fun cdv A outer s H vs Q E hr h => ⟨_, (pss_cons (ps_fld (pv 0) (pv 1) rfl)
      (pss_cons (ps_fld (pv 0) (pv 2) rfl)
      (pss_cons (ps_fld (pv 0) (pe_callTy (ktupF (K := K) rfl) (by rfl) B.tuple bt_tuple (pa_cons (pv 3) pa_nil)) rfl) pss_nil))),
    fn_init h (fun po => (i_cons T7.cl T7.n_row (k := 0) rfl (by decide) (by decide) (fun _ => a_var) (i_cons T7.cl T7.n_randomness (k := 1) rfl (by decide) (by decide) (fun _ => a_var) (i_cons T7.cl T7.n_numbers (k := 2) rfl (by decide) (by decide) (fun _ => (a_b1 u_tupOf (a_pk a_var))) i_nil)))) (fun ds P a => by obtain ⟨_, rfl, _⟩ := a; exact Nat.le_of_ble_eq_true rfl) ?_⟩)
  rintro ds P ⟨x, rfl, hp⟩
  walk_at "dw"
  exact hp
def aspAnw : ASp := fun ds P => ∃ (cm mm : Nat) (s : Sc) (ps : List Pk3), ds = [quD s, .lst (ps.map pkO)] ∧ (ScOk cm mm s ∧ cm ≤ 3 ∧ mm ≤ 10 ∧ PsOk s ps) ∧ P (.bl (s.co.all (meetB s (lookP ps))))
theorem ok_answers {f : Addr} {fd : FuncData} (F : Fun K "answers" "answers" s_answers f fd) (T7 : PkT K (ca 7)) (B : Blt mg) (C_meet_conditions : C8.Cal P w K mg base 4 "meet_conditions" (toSp K ca aspMC) []) : FnOk P w K mg base CX0 5 f fd ["question", "picks"] (toSp K ca aspAnw) := by
  refine F.ok sc_answers (fun vs H Q E h => sp_len (n := 2) (fun ds P a => by obtain ⟨_, _, _, _, rfl, _⟩ := a; rfl) h) (fun cdv A outer s H vs Q E hr h => ⟨_, (pss_cons (ps_set (i := 2) sc_answers.nd rfl (.inl rfl) pe_tnew)
      (pss_cons (ps_for PassesOwn.never rfl (pi_enumF false (K := K) rfl (by rfl) B.enumerate (pa_cons (pv 1) pa_nil)) (kgtup (K := K) (n := 2) rfl rfl (pgs_cons (pg_name (i := 3) sc_answers.nd rfl (.inl rfl)) (pgs_cons (pg_name (i := 4) sc_answers.nd rfl (.inl rfl)) pgs_nil)))
      (pss_one (ps_for PassesOwn.never rfl (pi_enumF true (K := K) rfl (by rfl) B.enumerate (pa_cons (kfld (K := K) rfl (pv 4)) pa_nil)) (kgtup (K := K) (n := 2) rfl rfl (pgs_cons (pg_name (i := 5) sc_answers.nd rfl (.inl rfl)) (pgs_cons (pg_name (i := 6) sc_answers.nd rfl (.inl rfl)) pgs_nil)))
      (pss_one (ps_tput (hu_of hr) (pv 2) (pe_tupF (pa_cons (pv 3) (pa_cons (pv 5) pa_nil))) (pv 6) (by rfl))))))
      (pss_one (ps_ret (C8.pe_c C_meet_conditions hr (by omega) rfl (pa_cons (pv 0) (pa_cons (pv 2) pa_nil))))))),
    fn_run1 h (fun po => (z_seq (z_set fun _ => b_tnew)
      (z_seq (z_for (vs := [3, 4]) (fun _ => (b_upI fun _ => (i_enum (a_cons a_var a_nil)))) (fun _ => (g_tup (g_cons (g_name (by decide)) (g_cons (g_name (by decide)) g_nil tot_name) tot_name)))
      (z_for (vs := [5, 6]) (fun _ => (b_upI fun _ => (i_enum (a_cons (a_fld T7.cl T7.n_numbers (c := 7) (i := 2) rfl a_var) a_nil)))) (fun _ => (g_tup (g_cons (g_name (by decide)) (g_cons (g_name (by decide)) g_nil tot_name) tot_name)))
      (z_tput (fun _ => (b_up fun _ => a_var)) (fun _ => (b_up fun _ => a_var)) (fun _ => (b_up fun _ => (a_tup (a_cons a_var (a_cons a_var a_nil))))))))
      (z_stl (z_ret fun _ => (b_up fun _ => (a_call (a_cons a_var (a_cons a_var a_nil))))))))) (fun ds P a => by obtain ⟨_, _, _, _, rfl, _⟩ := a; exact Nat.le_of_ble_eq_true rfl) ?_⟩)
  rintro ds P ⟨cm, mm, s, ps, rfl, ⟨ok, c3, m10, pok⟩, hp⟩
  have lc := ok.lc
  have lps := pok.ln
  refine zseqG fun N hN => ?_
  walk_at "wq"
  intro a _
  subst hN
  refine zseqG fun N hN => ?_
  walk_at "wq"
  rw [enumD_map]
  have hSt : ∃ W : List (Pk3 × Nat) → List Sl → Sto → Prop, ∀ xs env M, W xs env M ↔ ∃ (dn : List (Pk3 × Nat)) (ks : List (List Int)) (vs : List Dat) (t3 t4 t5 t6 : Sl), env = [Sl.d (quD s), Sl.d (.lst (ps.map pkO)), Sl.d (.cell a), t3, t4, t5, t6] ∧ dn ++ xs = ps.zipIdx ∧ M a = some (.dT ks vs) ∧ ks.length = vs.length ∧ ks.length ≤ 16 * dn.length ∧
    ∀ x : Nat × Nat, dgT ks vs [(x.1 : Int), (x.2 : Int)] = (if x.1 < dn.length then lookP ps x else none).map Dat.int := ⟨_, fun _ _ _ => Iff.rfl⟩
  obtain ⟨W, hW⟩ := hSt
  refine forB_suf (f := fun x : Pk3 × Nat => Dat.tup [Dat.int (x.2 : Nat), pkO x.1]) W ?_ ?_ ps.zipIdx _ _ ((hW _ _ _).mpr ⟨[], [], [], _, _, _, _, rfl, rfl, Sto.put_s, rfl, Nat.zero_le _, fun x => by rw [if_neg (by rw [List.length_nil]; omega)]; rfl⟩)
  · intro x xs env M w N2 hN2
    obtain ⟨dn, ks, vs, t3, t4, t5, t6, rfl, edn, hM, lk, lk2, hlk⟩ := (hW _ _ _).mp w
    clear w
    obtain ⟨i, hi⟩ : ∃ i, i = dn.length := ⟨_, rfl⟩
    have hx : ps.zipIdx[i]? = some x := by rw [← edn, List.getElem?_append_right (by omega), hi, Nat.sub_self]; rfl
    obtain ⟨p, i2⟩ := x
    obtain ⟨hp2, rfl⟩ := zipIdx_at hx
    have lip := (List.getElem?_eq_some_iff.mp hp2).1
    have lv : p.vs.length ≤ 4 := by
      rw [pok.at_ i2 _ p (List.getElem?_eq_getElem (by omega)) hp2]
      exact kfS_le ok (List.getElem_mem _)
    walk_at "wq"
    unfold pkO
    walk_at "wq"
    rw [enumD_map]
    have hSt : ∃ W : List (Int × Nat) → List Sl → Sto → Prop, ∀ ys env M, W ys env M ↔ ∃ (dm : List (Int × Nat)) (ks : List (List Int)) (vs : List Dat) (t5 t6 : Sl), env = [Sl.d (quD s), Sl.d (.lst (ps.map pkO)), Sl.d (.cell a), Sl.d (.int (i2 : Nat)), Sl.d (pkO p), t5, t6] ∧ dm ++ ys = p.vs.zipIdx ∧ M a = some (.dT ks vs) ∧ ks.length = vs.length ∧ ks.length ≤ 16 * i2 + dm.length ∧
      ∀ x : Nat × Nat, dgT ks vs [(x.1 : Int), (x.2 : Int)] = (if x.1 < i2 ∨ (x.1 = i2 ∧ x.2 < dm.length) then lookP ps x else none).map Dat.int := ⟨_, fun _ _ _ => Iff.rfl⟩
    obtain ⟨W2, hW2⟩ := hSt
    refine forB_suf (f := fun x : Int × Nat => Dat.tup [Dat.int (x.2 : Nat), Dat.int x.1]) W2 ?_ ?_ p.vs.zipIdx _ _ ((hW2 _ _ _).mpr ⟨[], ks, vs, _, _, rfl, rfl, hM, lk, by rw [List.length_nil]; omega, fun x => by rw [hlk]; refine congrArg (Option.map Dat.int) (ite_iff ?_); rw [← hi, List.length_nil]; omega⟩)
    · intro y ys env M2 w N3 hN3
      obtain ⟨dm, ks, vs, t5, t6, rfl, edm, hM, lk, lk2, hlk⟩ := (hW2 _ _ _).mp w
      clear w
      obtain ⟨j, hj⟩ : ∃ j, j = dm.length := ⟨_, rfl⟩
      have hy : p.vs.zipIdx[j]? = some y := by rw [← edm, List.getElem?_append_right (by omega), hj, Nat.sub_self]; rfl
      obtain ⟨v, j2⟩ := y
      obtain ⟨hv, rfl⟩ := zipIdx_at hy
      have ljv := (List.getElem?_eq_some_iff.mp hv).1
      walk_at "wq"
      rw [hM]
      walk_at "wq"
      refine ⟨by omega, ?_⟩
      have put := fun q => @dgT_put [(i2 : Int), (j2 : Int)] q (.int v) ks vs lk
      refine hN3 _ _ ((hW2 _ _ _).mpr ⟨dm ++ [(v, j2)], _, _, _, _, rfl, by rw [List.append_assoc]; exact edm, Sto.put_s, (put []).2.1, by have := (put []).2.2; rw [List.length_append, List.length_singleton]; omega, fun x => ?_⟩)
      rw [(put _).1, hlk]
      by_cases e : i2 = x.1 ∧ j2 = x.2
      · obtain ⟨rfl, rfl⟩ := e
        rw [if_pos rfl, if_pos (.inr ⟨rfl, by rw [List.length_append, List.length_singleton]; omega⟩)]
        unfold lookP
        rw [hp2, Option.bind_some, hv]
        rfl
      · rw [if_neg (fun z => e (by rw [List.cons.injEq, List.cons.injEq] at z; omega))]
        refine congrArg (Option.map Dat.int) (ite_iff ?_)
        rw [List.length_append, List.length_singleton]
        omega
    · intro env M2 w
      obtain ⟨dm, ks, vs, t5, t6, rfl, edm, hM, lk, lk2, hlk⟩ := (hW2 _ _ _).mp w
      rw [List.append_nil] at edm
      have ldm : dm.length = p.vs.length := by rw [edm, List.length_zipIdx]
      refine hN2 _ _ ((hW _ _ _).mpr ⟨dn ++ [(p, i2)], ks, vs, _, _, _, _, rfl, by rw [List.append_assoc]; exact edn, hM, lk, by rw [List.length_append, List.length_singleton]; omega, fun x => ?_⟩)
      rw [hlk, List.length_append, List.length_singleton, ← hi, ldm]
      by_cases e : x.1 = i2
      · rw [if_pos (show x.1 < i2 + 1 by omega)]
        by_cases g : x.2 < p.vs.length
        · rw [if_pos (.inr ⟨e, g⟩)]
        · rw [if_neg (by omega)]
          unfold lookP
          rw [e, hp2, Option.bind_some, List.getElem?_eq_none (by omega)]
      · refine congrArg (Option.map Dat.int) (ite_iff ?_)
        omega
  · intro env M w
    obtain ⟨dn, ks, vs, t3, t4, t5, t6, rfl, edn, hM, lk, lk2, hlk⟩ := (hW _ _ _).mp w
    clear w hW W
    rw [List.append_nil] at edn
    have ldn : dn.length = ps.length := by rw [edn, List.length_zipIdx]
    rw [ldn] at hlk
    show N _ _
    subst hN
    refine ⟨[Sl.d (quD s), Sl.d (.lst (ps.map pkO)), Sl.d (.dT ks (vs.map (vwX 0 M))), t3, t4, t5, t6], ?_, ?_⟩
    · exact .cons (.inl rfl) (.cons (.inl rfl) (.cons (.inr ⟨1, _, rfl, by rw [vx_dT hM]⟩) (.cons (.inl rfl) (.cons (.inl rfl) (.cons (.inl rfl) (.cons (.inl rfl) .nil))))))
    rw [show vs.map (vwX 0 M) = vs from List.map_id vs]
    walk_at "wq"
    refine ⟨cm, mm, s, ks, vs, lookP ps, rfl, ⟨ok, c3, m10⟩, fun x => ?_, fun c f c2 f2 hm _ => look_has pok (cnd_pl (ok.cn _ hm)).2 ok.nd, hp⟩
    rw [hlk]
    split
    · rfl
    · unfold lookP
      rw [List.getElem?_eq_none (by omega)]
      rfl
end
abbrev s_Wallet___init__ : Stmt := inClass (top 29) 0
theorem sc_Wallet___init__ : FnScope ["self", "group", "secret"] ["self", "group", "secret"] (defScope s_Wallet___init__) := ⟨rfl, rfl, rfl, by decide +kernel, rfl, by decide +kernel, by decide +kernel⟩
section
variable {P : Program} {w : World} {K : PySem.W.Frag} {mg : Str → Option Value} {base : Heap} {ca : Nat → Addr}
def bspWalI : BSp := fun ds M X P => ∃ (x : Addr) (g s : Dat), ds = [.cell x, g, s] ∧ M x = some (.obj 6 []) ∧ ∀ h, M h = none → P .non ((M.put x (some (.obj 6 [g, s, .cell h]))).put h (some (.lst [])))
theorem ok_wal_init {f : Addr} {fd : FuncData} (F : Fun K "__init__" "Wallet.__init__" s_Wallet___init__ f fd) (T6 : WlT K (ca 6)) (B : Blt mg) : FnOk P w K mg base (L2.CX P w) 1 f fd ["self", "group", "secret"] (toSpI2 K ca 6 bspWalI) := by
  refine F.okX sc_Wallet___init__ (fun vs H Q E h => sp_lenI2 (n := 3) (fun ds M X P a => by obtain ⟨_, _, _, rfl, _⟩ := a; rfl) h) (fun cdv A outer s H vs Q E hr h => ⟨_, (pss_cons (ps_fld (pv 0) (pv 1) rfl)
      (pss_cons (ps_fld (pv 0) (pv 2) rfl)
      (pss_one (ps_fld (pv 0) (pe_lst pa_nil) rfl)))),
    fn_runI2 h (fun po => (z_seq (z_setF (c := 6) (i := 0) T6.cl T6.n_group rfl (by decide) (by decide) (fun _ => (b_up fun _ => a_var)) (fun _ => (b_up fun _ => a_var)))
      (z_seq (z_setF (c := 6) (i := 1) T6.cl T6.n_secret rfl (by decide) (by decide) (fun _ => (b_up fun _ => a_var)) (fun _ => (b_up fun _ => a_var)))
      (z_setF (c := 6) (i := 2) T6.cl T6.n_holdings rfl (by decide) (by decide) (fun _ => (b_up fun _ => a_var)) (fun _ => (b_cel (b_upF fun _ => (a_lst a_nil)))))))) (fun ds M X P a => by obtain ⟨_, _, _, rfl, _⟩ := a; exact Nat.le_of_ble_eq_true rfl) ?_⟩)
  rintro ds M X P ⟨x, g, s, rfl, hM, hp⟩
  walk_at "bv"
  rw [hM]
  walk_at "bv"
  refine ⟨Nat.le_refl _, Nat.le_refl _, fun h hh => ?_⟩
  rw [Sto.pp] at hh ⊢
  have nh : x ≠ h := fun z => by
    rw [z, Sto.put_s] at hh
    cases hh
  rw [Sto.put_n (Ne.symm nh)] at hh
  rw [Sto.put_n nh, Sto.put_s]
  refine ⟨rfl, Nat.le_refl _, ?_⟩
  rw [Sto.pap nh]
  exact hp h hh
end
abbrev s_Wallet_keep : Stmt := inClass (top 29) 4
theorem sc_Wallet_keep : FnScope ["self", "issuer", "index", "kind", "randomness", "values"] ["self", "issuer", "index", "kind", "randomness", "values"] (defScope s_Wallet_keep) := ⟨rfl, rfl, rfl, by decide +kernel, rfl, by decide +kernel, by decide +kernel⟩
section
variable {P : Program} {w : World} {K : PySem.W.Frag} {mg : Str → Option Value} {base : Heap} {ca : Nat → Addr}
/-- a holding -/
structure Hd where
  nm : Str
  ix : Int
  kn : Str
  r : Int
  vs : List Int
def hdD (h : Hd) : Dat := .tup [.str h.nm, .int h.ix, .str h.kn, .int h.r, .tup (h.vs.map .int)]
def bspKeep : BSp := fun ds M X P => ∃ (x hl : Addr) (g s : Dat) (hs : List Dat) (h : Hd), ds = [.cell x, .str h.nm, .int h.ix, .str h.kn, .int h.r, .lst (h.vs.map .int)] ∧ M x = some (.obj 6 [g, s, .cell hl]) ∧ M hl = some (.lst hs) ∧ hs.length ≤ 1000 ∧ h.vs.length ≤ 1000 ∧ P .non (M.put hl (some (.lst (hs ++ [hdD h]))))
theorem ok_keep {f : Addr} {fd : FuncData} (F : Fun K "keep" "Wallet.keep" s_Wallet_keep f fd) (T6 : WlT K (ca 6)) (B : Blt mg) : FnOk P w K mg base CX0 1 f fd ["self", "issuer", "index", "kind", "randomness", "values"] (toSp2 K ca bspKeep) := by
  refine F.ok sc_Wallet_keep (fun vs H Q E h => sp_len2 (n := 6) (fun ds M X P a => by obtain ⟨_, _, _, _, _, _, rfl, _⟩ := a; rfl) h) (fun cdv A outer s H vs Q E hr h => ⟨_, (pss_one (ps_expr (pe_bm PySem.F.plainAttrs_list PySem.F.slot_list_append PySem.F.type_list_append mt_append (kfld (K := K) rfl (pv 0)) (pa_cons (pe_tupF (pa_cons (pv 1) (pa_cons (pv 2) (pa_cons (pv 3) (pa_cons (pv 4) (pa_cons (pe_callTy (ktupF (K := K) rfl) (by rfl) B.tuple bt_tuple (pa_cons (pv 5) pa_nil)) pa_nil)))))) pa_nil)))),
    fn_run2 h (fun po => (z_appC (fun _ => (b_fldC (c := 6) (i := 2) T6.cl T6.n_holdings rfl (b_up fun _ => a_var))) (fun _ => (b_up fun _ => (a_tup (a_cons a_var (a_cons a_var (a_cons a_var (a_cons a_var (a_cons (a_b1 u_tupOf (a_pk a_var)) a_nil)))))))))) (fun ds M X P a => by obtain ⟨_, _, _, _, _, _, rfl, _⟩ := a; exact Nat.le_of_ble_eq_true rfl) ?_⟩)
  rintro ds M X P ⟨x, hl, g, s, hs, h, rfl, hM, hh, l1, l2, hp⟩
  walk_at "bv"
  rw [hM]
  walk_at "bv"
  rw [hh]
  walk_at "bv"
  exact ⟨by omega, hp⟩
end
abbrev s__first_answer : Stmt := top 30
theorem sc__first_answer : FnScope ["question", "candidates", "chosen", "pick", "found"] ["question", "candidates", "chosen"] (defScope s__first_answer) := ⟨rfl, rfl, rfl, by decide +kernel, rfl, by decide +kernel, by decide +kernel⟩
abbrev s_Wallet__candidates : Stmt := inClass (top 29) 6
theorem sc_Wallet__candidates : FnScope ["self", "question", "card", "kind", "places", "found", "issuer", "index", "name", "randomness", "values", "_"] ["self", "question", "card"] (defScope s_Wallet__candidates) := ⟨rfl, rfl, rfl, by decide +kernel, rfl, by decide +kernel, by decide +kernel⟩
abbrev s_Wallet_picks : Stmt := inClass (top 29) 5
theorem sc_Wallet_picks : FnScope ["self", "question", "cards", "card"] ["self", "question"] (defScope s_Wallet_picks) := ⟨rfl, rfl, rfl, by decide +kernel, rfl, by decide +kernel, by decide +kernel⟩
/-- one of each, an earlier list before a later one -/
def ext : List (List Pk3) → List (List Pk3)
  | [] => [[]]
  | c :: cs => c.flatMap fun x => (ext cs).map (x :: ·)
/-- the first answer that begins with the chosen picks -/
def firstA (s : Sc) (cands : List (List Pk3)) (ch : List Pk3) : Option (List Pk3) := ((ext (cands.drop ch.length)).map (ch ++ ·)).find? fun ps => s.co.all (meetB s (lookP ps))
def optD (o : Option (List Pk3)) : Dat := match o with
  | some ps => .lst (ps.map pkO)
  | none => .non
structure CaOk (s : Sc) (cands : List (List Pk3)) : Prop where
  ln : cands.length = s.cs.length
  at_ : ∀ (k : Nat) c l p, s.cs[k]? = some c → cands[k]? = some l → p ∈ l → p.vs.length = (kfS s.ks c).length
theorem firstA_step {s : Sc} {cands : List (List Pk3)} {ch : List Pk3} {l : List Pk3} (h : cands[ch.length]? = some l) : firstA s cands ch = l.findSome? fun x => firstA s cands (ch ++ [x]) := by
  unfold firstA
  simp only [List.length_append, List.length_singleton]
  have hl := (List.getElem?_eq_some_iff.mp h).1
  have e : cands.drop ch.length = l :: cands.drop (ch.length + 1) := by
    rw [List.drop_eq_getElem_cons hl]
    rw [List.getElem?_eq_getElem hl] at h
    rw [Option.some.inj h]
  rw [e]
  show ((l.flatMap fun x => (ext (cands.drop (ch.length + 1))).map (x :: ·)).map (ch ++ ·)).find? _ = _
  generalize cands.drop (ch.length + 1) = rest at *
  clear h hl e
  induction l with
  | nil => rfl
  | cons x l ih =>
    rw [List.flatMap_cons, List.map_append, List.find?_append, ih, List.findSome?_cons, List.map_map]
    have e2 : ((ext rest).map ((ch ++ ·) ∘ (x :: ·))) = (ext rest).map (ch ++ [x] ++ ·) := List.map_congr_left fun y _ => by
      show ch ++ x :: y = ch ++ [x] ++ y
      rw [List.append_assoc]
      rfl
    rw [e2]
    cases (((ext rest).map (ch ++ [x] ++ ·)).find? fun ps => s.co.all (meetB s (lookP ps))) <;> rfl
section
variable {P : Program} {w : World} {K : PySem.W.Frag} {mg : Str → Option Value} {base : Heap} {ca : Nat → Addr}
def aspFA (n : Nat) : ASp := fun ds P => ∃ (cm mm : Nat) (s : Sc) (cands : List (List Pk3)) (ch : List Pk3), ds = [quD s, .lst (cands.map fun l => .lst (l.map pkO)), .lst (ch.map pkO)] ∧ (ScOk cm mm s ∧ cm ≤ 3 ∧ mm ≤ 10 ∧ CaOk s cands ∧ (∀ l ∈ cands, l.length ≤ 100)) ∧
  (ch.length ≤ cands.length ∧ cands.length < ch.length + n ∧ ∀ (k : Nat) c p, s.cs[k]? = some c → ch[k]? = some p → p.vs.length = (kfS s.ks c).length) ∧ P (optD (firstA s cands ch))
theorem fa_step {n : Nat} {f : Addr} {fd : FuncData} (F : Fun K "_first_answer" "_first_answer" s__first_answer f fd) (B : Blt mg) (C_answers : C8.Cal P w K mg base 5 "answers" (toSp K ca aspAnw) []) (C__first_answer : C8.Cal P w K mg base (n + 5) "_first_answer" (toSp K ca (aspFA n)) []) : FnOk P w K mg base CX0 (n + 6) f fd ["question", "candidates", "chosen"] (toSp K ca (aspFA (n + 1))) := by
  refine F.ok sc__first_answer (fun vs H Q E h => sp_len (n := 3) (fun ds P a => by obtain ⟨_, _, _, _, _, rfl, _⟩ := a; rfl) h) (fun cdv A outer s H vs Q E hr h => ⟨_, (pss_cons (ps_if (pt_cmpR op_eq (pe_callB (klen (K := K) rfl) (by rfl) B.len bt_len (pa_cons (pv 2) pa_nil)) (pe_callB (klen (K := K) rfl) (by rfl) B.len bt_len (pa_cons (pv 1) pa_nil)) (nomark _)) (pss_one (ps_ret (pe_ifExp (pt_val (C8.pe_c C_answers hr (by omega) rfl (pa_cons (pv 0) (pa_cons (pv 2) pa_nil)))) (pv 2) pe_non))) pss_nil)
      (pss_cons (ps_for PassesOwn.never rfl (kpil (K := K) rfl (pe_ix (kixs (K := K) rfl) (pv 1) (pe_callB (klen (K := K) rfl) (by rfl) B.len bt_len (pa_cons (pv 2) pa_nil)) (fun _ _ => rfl))) (pg_name (i := 3) sc__first_answer.nd rfl (.inl rfl))
      (pss_cons (ps_set (i := 4) sc__first_answer.nd rfl (.inl rfl) (C8.pe_c C__first_answer hr (by omega) rfl (pa_cons (pv 0) (pa_cons (pv 1) (pa_cons (pe_op op_cat (pv 2) (pe_lst (pa_cons (pv 3) pa_nil))) pa_nil)))))
      (pss_one (ps_if (pt_cmpR op_notN (pv 4) pe_non (nomark _)) (pss_one (ps_ret (pv 4))) pss_nil))))
      (pss_one (ps_ret pe_non)))),
    fn_run h (fun po => (s_seq (s_if (fun _ => (a_test (a_op pst_rv rok_eq (a_b1 u_len (a_pk a_var)) (a_b1 u_len (a_pk a_var))))) (s_ret fun _ => (a_if (a_tb (a_call (a_cons a_var (a_cons a_var a_nil)))) a_var a_non)) s_next)
      (s_seq (s_for (vs := [3]) (fun _ => (i_list (a_op pst_pk rok_ix (a_pk a_var) (a_b1 u_len (a_pk a_var))))) (fun _ => (g_name (by decide)))
      (s_seq (s_set fun _ => (a_call (a_cons a_var (a_cons a_var (a_cons (a_fz (a_opF pst_pk rok_catL (a_pk a_var) (a_pk (a_fz (a_lst (a_cons a_var a_nil)))))) a_nil)))))
      (s_if (fun _ => (a_test (a_op pst_rv rok_notN a_var a_non))) (s_ret fun _ => a_var) s_next)))
      (s_ret fun _ => a_non)))) (fun ds P a => by obtain ⟨_, _, _, _, _, rfl, _⟩ := a; exact Nat.le_of_ble_eq_true rfl) ?_⟩)
  rintro ds P ⟨cm, mm, s, cands, ch, rfl, ⟨ok, c3, m10, cok, l100⟩, ⟨h1, h2, h3⟩, hp⟩
  have lc := ok.lc
  have ln := cok.ln
  refine seqG fun N hN => ?_
  walk_at "dw"
  rw [List.length_map, List.length_map]
  refine twoD (fun e => ?_) (fun e => ?_)
  · have e : ch.length = cands.length := by omega
    have ef : firstA s cands ch = if s.co.all (meetB s (lookP ch)) = true then some ch else none := by
      unfold firstA
      rw [List.drop_eq_nil_of_le (by omega)]
      show ([ch ++ []].find? _) = _
      rw [List.append_nil, List.find?_singleton]
    refine ⟨cm, mm, s, ch, rfl, ⟨ok, c3, m10, by omega, h3⟩, ?_⟩
    rw [ef] at hp
    cases hb : s.co.all (meetB s (lookP ch)) with
    | true =>
      rw [hb, if_pos rfl] at hp
      walk_at "dw"
      exact hp
    | false =>
      rw [hb, if_neg (by decide)] at hp
      walk_at "dw"
      exact hp
  subst hN
  refine seqG fun N hN => ?_
  walk_at "dw"
  rw [List.length_map]
  have hlt : ch.length < cands.length := by omega
  refine oa_at rfl (List.getElem?_eq_getElem hlt) ?_
  have hl : cands[ch.length]? = some cands[ch.length] := List.getElem?_eq_getElem hlt
  have ml := List.getElem_mem (l := cands) hlt
  generalize cands[ch.length] = l at hl ml
  have l1 := l100 l ml
  walk_at "dw"
  have hSt : ∃ W : List Pk3 → List Sl → Prop, ∀ xs env, W xs env ↔ ∃ (dn : List Pk3) (t3 t4 : Sl), env = [Sl.d (quD s), Sl.d (.lst (cands.map fun l => .lst (l.map pkO))), Sl.d (.lst (ch.map pkO)), t3, t4] ∧ dn ++ xs = l ∧ ∀ x ∈ dn, firstA s cands (ch ++ [x]) = none := ⟨_, fun _ _ => Iff.rfl⟩
  obtain ⟨W, hW⟩ := hSt
  rw [firstA_step hl] at hp
  refine forA_suf (f := pkO) W ?_ ?_ l _ ((hW _ _).mpr ⟨[], _, _, rfl, rfl, fun x h => (by cases h)⟩)
  · intro x xs env w N2 hN2
    obtain ⟨dn, t3, t4, rfl, edn, hdn⟩ := (hW _ _).mp w
    clear w
    have mx : x ∈ l := by rw [← edn]; exact List.mem_append.mpr (.inr List.mem_cons_self)
    refine seqG fun N3 hN3 => ?_
    walk_at "dw"
    refine ⟨by rw [List.length_map]; omega, ?_⟩
    refine ⟨cm, mm, s, cands, ch ++ [x], by rw [List.map_append]; rfl, ⟨ok, c3, m10, cok, l100⟩, ⟨by rw [List.length_append, List.length_singleton]; omega, by rw [List.length_append, List.length_singleton]; omega, fun k c p g1 g2 => ?_⟩, ?_⟩
    · by_cases hk : k < ch.length
      · rw [List.getElem?_append_left hk] at g2
        exact h3 k c p g1 g2
      · rw [List.getElem?_append_right (by omega)] at g2
        have := (List.getElem?_eq_some_iff.mp g2).1
        rw [List.length_singleton] at this
        have hk2 : k = ch.length := by omega
        rw [show k - ch.length = 0 by omega] at g2
        cases g2
        rw [hk2] at g1
        exact cok.at_ _ c l _ g1 hl mx
    subst hN3
    cases hf : firstA s cands (ch ++ [x]) with
    | none =>
      unfold optD
      walk_at "dw"
      refine hN2 _ ((hW _ _).mpr ⟨dn ++ [x], _, _, rfl, by rw [List.append_assoc]; exact edn, fun y hy => ?_⟩)
      rcases List.mem_append.mp hy with hy | hy
      · exact hdn y hy
      · obtain rfl := List.mem_singleton.mp hy
        exact hf
    | some ps =>
      unfold optD
      walk_at "dw"
      have e : (l.findSome? fun x => firstA s cands (ch ++ [x])) = some ps := by
        rw [← edn, List.findSome?_append, List.findSome?_eq_none_iff.mpr hdn, Option.none_or, List.findSome?_cons, hf]
      rw [e] at hp
      exact hp
  · intro env w
    obtain ⟨dn, t3, t4, rfl, edn, hdn⟩ := (hW _ _).mp w
    rw [List.append_nil] at edn
    subst edn
    show N _
    subst hN
    walk_at "dw"
    rw [List.findSome?_eq_none_iff.mpr hdn] at hp
    exact hp
theorem ok_fa {f : Addr} {fd : FuncData} (F : Fun K "_first_answer" "_first_answer" s__first_answer f fd) (B : Blt mg) (C_answers : C8.Cal P w K mg base 5 "answers" (toSp K ca aspAnw) []) (m : mg "_first_answer" = some (.ref f)) (b : Binds K fd ["question", "candidates", "chosen"] []) : ∀ n, FnOk P w K mg base CX0 (n + 5) f fd ["question", "candidates", "chosen"] (toSp K ca (aspFA n))
  | 0 => fn_vac fun _ _ ⟨_, _, _, _, _, _, _, ⟨h1, h2, _⟩, _⟩ => by omega
  | n + 1 => fa_step F B C_answers ⟨⟨f, fd, _, [], ok_fa F B C_answers m b n, m, F.kp, b, .nil⟩⟩
end
/-- the places of a holding's row among those of a card -/
def pairOf (x : Str × Int × Int) : Str × Int := (x.1, x.2.1)
def plcI (r : List (Str × Int × Int)) (h : Hd) : Nat := (r.map pairOf).findIdx fun y => decide (y = (h.nm, h.ix))
def candF (kn : Str) (r : List (Str × Int × Int)) (h : Hd) : Option Pk3 := if h.kn = kn ∧ (h.nm, h.ix) ∈ r.map pairOf then some ⟨plcI r h, h.r, h.vs⟩ else none
def cand (kn : Str) (r : List (Str × Int × Int)) (hs : List Hd) : List Pk3 := hs.filterMap (candF kn r)
def candAt (s : Sc) (hs : List Hd) (j : Nat) : List Pk3 := match s.cs[j]?, s.rows[j]? with
  | some c, some r => cand c.kn r hs
  | _, _ => []
def prD (y : Str × Int) : Dat := .tup [.str y.1, .int y.2]
theorem prD_inj {x y : Str × Int} (h : prD x = prD y) : x = y := by
  obtain ⟨a, b⟩ := x
  obtain ⟨c, d⟩ := y
  unfold prD at h
  rw [Dat.tup.injEq, List.cons.injEq, List.cons.injEq, Dat.str.injEq, Dat.int.injEq] at h
  exact Prod.ext h.1 h.2.1
theorem okE_pr {y : Str × Int} (h : PyData.strOk y.1 = true) : okE 63 (prD y) := (okE_tup (n := 0) (okE_two (okE_str h _) (okE_int _ _))).up (Nat.le_of_ble_eq_true rfl)
theorem rows_str {cm mm : Nat} {s : Sc} (ok : ScOk cm mm s) {j : Nat} {r : List (Str × Int × Int)} (h : s.rows[j]? = some r) : r.length ≤ 4 ∧ ∀ y ∈ r.map pairOf, PyData.strOk y.1 = true := by
  have lj := (List.getElem?_eq_some_iff.mp h).1
  have lr := ok.lr
  have l0 := ok.l0
  have l1 := ok.l1
  have e := ok.at_ j _ r _ _ (List.getElem?_eq_getElem (by omega)) h (List.getElem?_eq_getElem (by omega)) (List.getElem?_eq_getElem (by omega))
  refine ⟨e.2.2.ln.2, fun y hy => ?_⟩
  obtain ⟨x, hx, rfl⟩ := List.mem_map.mp hy
  obtain ⟨i, hi⟩ := List.mem_iff_getElem?.mp hx
  exact (ok.cd _ (List.getElem_mem (l := s.cs) (by omega))).1.2.2 _ (e.2.2.ix i x hi).2
/-- holdings that fit -/
structure HdsOk (s : Sc) (hs : List Hd) : Prop where
  ln : hs.length ≤ 10
  l4 : ∀ h ∈ hs, h.vs.length ≤ 4
  at_ : ∀ h ∈ hs, PyData.strOk h.nm = true ∧ PyData.strOk h.kn = true ∧ ∀ c ∈ s.cs, h.kn = c.kn → Paired (fun (f : Fld) v => 0 ≤ v ∧ v < f.2) (kfS s.ks c) h.vs
def wlD (g : Dat) (sec : Int) (hs : List Hd) : Dat := .obj 6 [g, .int sec, .lst (hs.map hdD)]
section
variable {P : Program} {w : World} {K : PySem.W.Frag} {mg : Str → Option Value} {base : Heap} {ca : Nat → Addr}
def aspCnds : ASp := fun ds P => ∃ (cm mm : Nat) (s : Sc) (j : Nat) (c : Cd) (r : List (Str × Int × Int)) (hs : List Hd) (g : Dat) (sec : Int), ds = [wlD g sec hs, quD s, .int j] ∧ (ScOk cm mm s ∧ cm ≤ 3 ∧ s.cs[j]? = some c ∧ s.rows[j]? = some r ∧ HdsOk s hs) ∧ P (.lst ((cand c.kn r hs).map pkO))
theorem ok_cnds {f : Addr} {fd : FuncData} (F : Fun K "_candidates" "Wallet._candidates" s_Wallet__candidates f fd) (T6 : WlT K (ca 6)) (T8 : PoT K (ca 8)) (T9 : QuT K (ca 9)) (B : Blt mg) (K_Pick : C8.Mak P w K mg base 1 "Pick" (ca 7) (toSpI K ca 7 aspPkI) []) : FnOk P w K mg base CX0 3 f fd ["self", "question", "card"] (toSp K ca aspCnds) := by
  refine F.ok sc_Wallet__candidates (fun vs H Q E h => sp_len (n := 3) (fun ds P a => by obtain ⟨_, _, _, _, _, _, _, _, _, rfl, _⟩ := a; rfl) h) (fun cdv A outer s H vs Q E hr h => ⟨_, (pss_cons (ps_set (i := 3) sc_Wallet__candidates.nd rfl (.inl rfl) (pe_ix (kixs (K := K) rfl) (pe_ix (kixs (K := K) rfl) (kfld (K := K) rfl (kfld (K := K) rfl (pv 1))) (pv 2) (fun _ _ => rfl)) pe_int (fun _ _ => rfl)))
      (pss_cons (ps_setLc (i := 4) (own := [("issuer", 6), ("index", 7), ("_", 11)]) (tt := tYes) rfl sc_Wallet__candidates.nd rfl rfl (sw_true rfl rfl rfl (by decide +kernel)) (kpit (K := K) rfl (pe_ix (kixs (K := K) rfl) (kfld (K := K) rfl (pv 1)) (pv 2) (fun _ _ => rfl))) (blkOk_by (N := ["self", "question", "card", "kind", "places", "found", "issuer", "index", "name", "randomness", "values", "_"]) (sc := defScope s_Wallet__candidates) (by decide +kernel))
        (fun _ _ _ _ _ => (kgtup (K := K) (n := 3) rfl rfl (pgs_cons (pg_name (i := 6) sc_Wallet__candidates.nd rfl (.inl rfl)) (pgs_cons (pg_name (i := 7) sc_Wallet__candidates.nd rfl (.inl rfl)) (pgs_cons (pg_name (i := 11) sc_Wallet__candidates.nd rfl (.inl rfl)) pgs_nil))))) (fun _ _ _ _ _ => pts_nil)
        (fun _ _ _ _ _ => (pe_tupF (pa_cons (pv 6) (pa_cons (pv 7) pa_nil)))))
      (pss_cons (ps_set (i := 5) sc_Wallet__candidates.nd rfl (.inl rfl) (pe_lst pa_nil))
      (pss_cons (ps_for PassesOwn.never rfl (kpil (K := K) rfl (kfld (K := K) rfl (pv 0))) (kgtup (K := K) (n := 5) rfl rfl (pgs_cons (pg_name (i := 6) sc_Wallet__candidates.nd rfl (.inl rfl)) (pgs_cons (pg_name (i := 7) sc_Wallet__candidates.nd rfl (.inl rfl)) (pgs_cons (pg_name (i := 8) sc_Wallet__candidates.nd rfl (.inl rfl)) (pgs_cons (pg_name (i := 9) sc_Wallet__candidates.nd rfl (.inl rfl)) (pgs_cons (pg_name (i := 10) sc_Wallet__candidates.nd rfl (.inl rfl)) pgs_nil))))))
      (pss_one (ps_if (PW.pt (pw_and (pt_cmpR op_eq (pv 8) (pv 3) (nomark _)) (pw_and1 (pt_cmpR (op_inL hr (by omega)) (pe_tupF (pa_cons (pv 6) (pa_cons (pv 7) pa_nil))) (pv 4) rfl)))) (pss_one (ps_expr (pe_bm PySem.F.plainAttrs_list PySem.F.slot_list_append PySem.F.type_list_append mt_append (pv 5) (pa_cons (C8.pe_mk K_Pick hr (by omega) rfl (pa_cons (kbm (K := K) rfl PySem.F.plainAttrs_list PySem.F.slot_list_index PySem.F.type_list_index (kindexD (K := K) rfl hr) (pv 4) (pa_cons (pe_tupF (pa_cons (pv 6) (pa_cons (pv 7) pa_nil))) pa_nil)) (pa_cons (pv 9) (pa_cons (pv 10) pa_nil)))) pa_nil)))) pss_nil)))
      (pss_one (ps_ret (pv 5))))))),
    fn_run h (fun po => (s_seq (s_set fun _ => (a_op pst_pk rok_ix (a_pk (a_op pst_pk rok_ix (a_pk (a_fld T8.cl T8.n_cards (c := 8) (i := 0) rfl (a_fld T9.cl T9.n_policy (c := 9) (i := 2) rfl a_var))) a_var)) a_int))
      (s_seq (s_set fun _ => (a_fz (a_lc (vs := [6, 7, 11]) (i_tup (a_op pst_pk rok_ix (a_pk (a_fld T9.cl T9.n_rows (c := 9) (i := 3) rfl a_var)) a_var)) (g_tup (g_cons (g_name (by decide)) (g_cons (g_name (by decide)) (g_cons (g_name (by decide)) g_nil tot_name) tot_name) tot_name)) a_yes (a_tup (a_cons a_var (a_cons a_var a_nil))))))
      (s_seq (s_setO fun _ => (a_lst a_nil))
      (s_seq (s_for (vs := [6, 7, 8, 9, 10]) (fun _ => (i_list (a_fld T6.cl T6.n_holdings (c := 6) (i := 2) rfl a_var))) (fun _ => (g_tup (g_cons (g_name (by decide)) (g_cons (g_name (by decide)) (g_cons (g_name (by decide)) (g_cons (g_name (by decide)) (g_cons (g_name (by decide)) g_nil tot_name) tot_name) tot_name) tot_name) tot_name)))
      (s_if (fun _ => (a_and (a_test (a_op pst_rv rok_eq a_var a_var)) (a_test (a_op pst_rv rok_inS (a_tup (a_cons a_var (a_cons a_var a_nil))) (a_pk a_var))))) (s_app fun _ => (a_make (a_cons (a_indexD (a_pk a_var) (a_tup (a_cons a_var (a_cons a_var a_nil)))) (a_cons a_var (a_cons a_var a_nil))))) s_next))
      (s_fz (i := 5) (s_ret fun _ => a_var))))))) (fun ds P a => by obtain ⟨_, _, _, _, _, _, _, _, _, rfl, _⟩ := a; exact Nat.le_of_ble_eq_true rfl) ?_⟩)
  rintro ds P ⟨cm, mm, s, j, c, r, hs, g, sec, rfl, ⟨ok, c3, hc, hr, hok⟩, hp⟩
  have lc := ok.lc
  have lh := hok.ln
  obtain ⟨lr4, rst⟩ := rows_str ok hr
  refine seqG fun N hN => ?_
  walk_at "dw"
  rw [kq_pol, kp_cards]
  walk_at "dw"
  refine oa_at rfl hc ?_
  unfold cdD
  walk_at "dw"
  subst hN
  refine seqG fun N hN => ?_
  walk_at "dw"
  rw [kq_rows]
  walk_at "dw"
  refine oa_at rfl hr ?_
  walk_at "dw"
  refine ⟨by rw [List.length_map]; omega, ?_⟩
  refine lcA_mapL (g := fun x : Str × Int × Int => prD (pairOf x)) (fun x hx Q hQ => ?_) ?_
  · unfold rw3D
    walk_at "dw"
    exact hQ
  subst hN
  refine seqG fun N hN => ?_
  walk_at "dw"
  subst hN
  refine seqG fun N hN => ?_
  unfold wlD
  walk_at "dw"
  have e4 : ∀ y ∈ (r.map pairOf).map prD, okE 63 y := fun y hy => by
    obtain ⟨z, hz, rfl⟩ := List.mem_map.mp hy
    exact okE_pr (rst z hz)
  rw [show (r.map fun x => prD (pairOf x)) = (r.map pairOf).map prD by rw [List.map_map]; rfl]
  have hSt : ∃ W : List Hd → List Sl → Prop, ∀ xs env, W xs env ↔ ∃ (dn : List Hd) (t6 t7 t8 t9 t10 : Sl), env = [Sl.d (.obj 6 [g, .int sec, .lst (hs.map hdD)]), Sl.d (quD s), Sl.d (.int j), Sl.d (.str c.kn), Sl.d (.lst ((r.map pairOf).map prD)), Sl.o ((cand c.kn r dn).map pkO), t6, t7, t8, t9, t10, Sl.u] ∧ dn ++ xs = hs := ⟨_, fun _ _ => Iff.rfl⟩
  obtain ⟨W, hW⟩ := hSt
  refine forA_suf (f := hdD) W ?_ ?_ hs _ ((hW _ _).mpr ⟨[], _, _, _, _, _, rfl, rfl⟩)
  · intro h xs env w N2 hN2
    obtain ⟨dn, t6, t7, t8, t9, t10, rfl, edn⟩ := (hW _ _).mp w
    clear w
    have mh : h ∈ hs := by rw [← edn]; exact List.mem_append.mpr (.inr List.mem_cons_self)
    obtain ⟨h1, h2, _⟩ := hok.at_ h mh
    have ldn : (cand c.kn r dn).length ≤ 10 := by
      have e1 := List.length_filterMap_le (candF c.kn r) dn
      have e2 := congrArg List.length edn
      rw [List.length_append] at e2
      show (dn.filterMap (candF c.kn r)).length ≤ 10
      omega
    have go : ∀ (t6 t7 t8 t9 t10 : Sl), N2 [Sl.d (.obj 6 [g, .int sec, .lst (hs.map hdD)]), Sl.d (quD s), Sl.d (.int j), Sl.d (.str c.kn), Sl.d (.lst ((r.map pairOf).map prD)), Sl.o ((cand c.kn r (dn ++ [h])).map pkO), t6, t7, t8, t9, t10, Sl.u] := fun t6 t7 t8 t9 t10 => hN2 _ ((hW _ _).mpr ⟨dn ++ [h], _, _, _, _, _, rfl, by rw [List.append_assoc]; exact edn⟩)
    have ec : cand c.kn r (dn ++ [h]) = cand c.kn r dn ++ (candF c.kn r h).toList := by
      unfold cand
      rw [List.filterMap_append]
      congr 1
    rw [ec] at go
    clear hN2 hW W
    rw [show hdD h = .tup [.str h.nm, .int h.ix, .str h.kn, .int h.r, .tup (h.vs.map .int)] from rfl]
    walk_at "dw"
    have stay : candF c.kn r h = none → ∀ t6 t7 t8 t9 t10 : Sl, N2 [Sl.d (.obj 6 [g, .int sec, .lst (hs.map hdD)]), Sl.d (quD s), Sl.d (.int j), Sl.d (.str c.kn), Sl.d (.lst ((r.map pairOf).map prD)), Sl.o ((cand c.kn r dn).map pkO), t6, t7, t8, t9, t10, Sl.u] := fun e t6 t7 t8 t9 t10 => by
      have := go t6 t7 t8 t9 t10
      rw [e, show (none : Option Pk3).toList = [] from rfl, List.append_nil] at this
      exact this
    refine twoD (fun ek => ?_) (fun ek => stay (by unfold candF; rw [if_neg fun z => ek z.1]) _ _ _ _ _)
    have okp : okE 63 (prD (h.nm, h.ix)) := okE_pr h1
    refine ⟨fun y hy => ⟨(e4 y hy).up (by omega), okp.up (by omega)⟩, fun b hb => ?_⟩
    have hb2 : b = true ↔ (h.nm, h.ix) ∈ r.map pairOf := by
      rw [hb]
      constructor
      · intro m
        obtain ⟨z, hz, e⟩ := List.mem_map.mp m
        have := prD_inj (x := z) (y := (h.nm, h.ix)) e
        rw [← this]
        exact hz
      · exact fun m => List.mem_map.mpr ⟨_, m, rfl⟩
    cases b with
    | false =>
      walk_at "dw"
      exact stay (by unfold candF; rw [if_neg fun z => absurd (hb2.mpr z.2) (by decide)]) _ _ _ _ _
    | true =>
      have mm := hb2.mp rfl
      have ef : candF c.kn r h = some ⟨plcI r h, h.r, h.vs⟩ := by unfold candF; rw [if_pos ⟨ek, mm⟩]
      rw [ef] at go
      walk_at "dw"
      refine ⟨by rw [List.length_map]; omega, ?_⟩
      unfold aIndexD
      walk_at "dw"
      obtain ⟨y, g1, g2, g3⟩ := find_at (p := fun y => decide (y = (h.nm, h.ix))) (xs := r.map pairOf) ⟨_, mm, decide_eq_true rfl⟩
      refine ⟨okp, e4, plcI r h, ?_, fun m hm hx => ?_, ?_⟩
      · rw [List.getElem?_map, show (r.map pairOf)[plcI r h]? = some y from g1, Option.map_some, of_decide_eq_true g2]
        rfl
      · rw [List.getElem?_map] at hx
        cases q : (r.map pairOf)[m]? with
        | none =>
          rw [q] at hx
          cases hx
        | some z =>
          rw [q] at hx
          exact absurd (prD_inj (x := z) (y := (h.nm, h.ix)) (Option.some.inj hx)) (of_decide_eq_false (g3 m hm z q))
      refine ⟨⟨plcI r h, h.r, h.vs⟩, rfl, ?_⟩
      have := go (Sl.d (.str h.nm)) (Sl.d (.int h.ix)) (Sl.d (.str h.kn)) (Sl.d (.int h.r)) (Sl.d (.tup (h.vs.map .int)))
      rw [List.map_append] at this
      exact this
  · intro env w
    obtain ⟨dn, t6, t7, t8, t9, t10, rfl, edn⟩ := (hW _ _).mp w
    rw [List.append_nil] at edn
    subst edn
    show N _
    subst hN
    walk_at "dw"
    exact hp
theorem cand_mem {kn : Str} {r : List (Str × Int × Int)} {hs : List Hd} {p : Pk3} (h : p ∈ cand kn r hs) : ∃ x ∈ hs, x.kn = kn ∧ p = ⟨plcI r x, x.r, x.vs⟩ := by
  obtain ⟨x, hx, e⟩ := List.mem_filterMap.mp h
  unfold candF at e
  split at e
  · rename_i z
    cases e
    exact ⟨x, hx, z.1, rfl⟩
  · cases e
theorem candAt_ok {cm mm : Nat} {s : Sc} {hs : List Hd} (ok : ScOk cm mm s) (hok : HdsOk s hs) {c : Cd} {j : Nat} (hc : s.cs[j]? = some c) : ∃ r, s.rows[j]? = some r ∧ candAt s hs j = cand c.kn r hs := by
  have lj := (List.getElem?_eq_some_iff.mp hc).1
  have lr := ok.lr
  refine ⟨_, List.getElem?_eq_getElem (by omega), ?_⟩
  unfold candAt
  rw [hc, List.getElem?_eq_getElem (by omega)]
theorem cands_ok {cm mm : Nat} {s : Sc} {hs : List Hd} (ok : ScOk cm mm s) (hok : HdsOk s hs) : CaOk s ((List.range s.cs.length).map (candAt s hs)) := by
  refine ⟨by rw [List.length_map, List.length_range], fun k c l p h1 h2 hp => ?_⟩
  rw [List.getElem?_map] at h2
  cases g : (List.range s.cs.length)[k]? with
  | none =>
    rw [g] at h2
    cases h2
  | some i =>
    rw [g] at h2
    cases h2
    have ei : i = k := by
      obtain ⟨_, e⟩ := List.getElem?_eq_some_iff.mp g
      rw [List.getElem_range] at e
      exact e.symm
    subst ei
    obtain ⟨r, hr, e⟩ := candAt_ok ok hok h1
    rw [e] at hp
    obtain ⟨x, hx, ek, rfl⟩ := cand_mem hp
    exact prd_len ((hok.at_ x hx).2.2 c (List.mem_of_getElem? h1) ek)
def aspPicks : ASp := fun ds P => ∃ (cm mm : Nat) (s : Sc) (hs : List Hd) (g : Dat) (sec : Int), ds = [wlD g sec hs, quD s] ∧ (ScOk cm mm s ∧ cm ≤ 3 ∧ mm ≤ 10 ∧ HdsOk s hs) ∧ P (optD (firstA s ((List.range s.cs.length).map (candAt s hs)) []))
theorem ok_picks {f : Addr} {fd : FuncData} (F : Fun K "picks" "Wallet.picks" s_Wallet_picks f fd) (T8 : PoT K (ca 8)) (T9 : QuT K (ca 9)) (B : Blt mg) (M__candidates : C8.Met P w K mg base 3 (ca 6) "_candidates" (toSp K ca aspCnds) []) (C__first_answer : C8.Cal P w K mg base 9 "_first_answer" (toSp K ca (aspFA 4)) []) : FnOk P w K mg base CX0 10 f fd ["self", "question"] (toSp K ca aspPicks) := by
  refine F.ok sc_Wallet_picks (fun vs H Q E h => sp_len (n := 2) (fun ds P a => by obtain ⟨_, _, _, _, _, _, rfl, _⟩ := a; rfl) h) (fun cdv A outer s H vs Q E hr h => ⟨_, (pss_cons (ps_set (i := 2) sc_Wallet_picks.nd rfl (.inl rfl) (pe_callTy cr_range1 (by rfl) B.range bt_range (pa_cons (pe_callB (klen (K := K) rfl) (by rfl) B.len bt_len (pa_cons (kfld (K := K) rfl (kfld (K := K) rfl (pv 1))) pa_nil)) pa_nil)))
      (pss_one (ps_ret (C8.pe_c C__first_answer hr (by omega) rfl (pa_cons (pv 1) (pa_cons (pe_lc (own := [("card", 3)]) (g := gName 3) (tt := tYes) rfl sc_Wallet_picks.nd (pi_rngV (K := K) rfl (pv 2)) (blkOk_by (N := ["self", "question", "cards", "card"]) (sc := defScope s_Wallet_picks) (by decide +kernel))
        (fun _ _ _ _ _ => (pg_name (i := 3) sc_Wallet_picks.nd rfl (.inl rfl))) (fun _ _ _ _ _ => pts_nil)
        (fun _ _ _ _ _ => (C8.pe_mt M__candidates hr (by omega) (pv 0) (pa_cons (pv 1) (pa_cons (pv 3) pa_nil))))) (pa_cons (pe_lst pa_nil) pa_nil))))))),
    fn_run h (fun po => (s_seq (s_set fun _ => (a_rng (a_cons (a_b1 u_len (a_pk (a_fld T8.cl T8.n_cards (c := 8) (i := 0) rfl (a_fld T9.cl T9.n_policy (c := 9) (i := 2) rfl a_var)))) a_nil)))
      (s_ret fun _ => (a_call (a_cons a_var (a_cons (a_fz (a_lc (vs := [3]) (i_rngV a_var) (g_name (by decide)) a_yes (a_meth (by decide) a_var (a_cons a_var (a_cons a_var a_nil))))) (a_cons (a_fz (a_lst a_nil)) a_nil))))))) (fun ds P a => by obtain ⟨_, _, _, _, _, _, rfl, _⟩ := a; exact Nat.le_of_ble_eq_true rfl) ?_⟩)
  rintro ds P ⟨cm, mm, s, hs, g, sec, rfl, ⟨ok, c3, m10, hok⟩, hp⟩
  have lc := ok.lc
  refine seqG fun N hN => ?_
  walk_at "dw"
  rw [kq_pol, kp_cards]
  walk_at "dw"
  subst hN
  walk_at "dw"
  rw [List.length_map, Int.toNat_natCast]
  refine ⟨by omega, by omega, by rw [List.length_map, List.length_range]; omega, ?_⟩
  refine lcA_mapL (g := fun i : Nat => Dat.lst ((candAt s hs i).map pkO)) (fun i hi Q hQ => ?_) ?_
  · have hi := List.mem_range.mp hi
    have hc := List.getElem?_eq_getElem hi
    obtain ⟨r, hr, e⟩ := candAt_ok ok hok hc
    rw [e] at hQ
    unfold wlD
    walk_at "dw"
    rw [show (0 : Int) + (i : Int) = (i : Nat) by omega]
    exact ⟨cm, mm, s, i, _, r, hs, g, sec, rfl, ⟨ok, c3, hc, hr, hok⟩, hQ⟩
  refine ⟨cm, mm, s, (List.range s.cs.length).map (candAt s hs), [], by rw [List.map_map]; rfl, ⟨ok, c3, m10, cands_ok ok hok, fun l hl => ?_⟩, ⟨Nat.zero_le _, by rw [List.length_map, List.length_range, List.length_nil]; omega, fun k c p h1 h2 => (by cases h2)⟩, hp⟩
  obtain ⟨i, hi, rfl⟩ := List.mem_map.mp hl
  obtain ⟨r, hr, e⟩ := candAt_ok ok hok (List.getElem?_eq_getElem (List.mem_range.mp hi))
  rw [e]
  have := List.length_filterMap_le (candF (s.cs[i]'(List.mem_range.mp hi)).kn r) hs
  have := hok.ln
  show (hs.filterMap _).length ≤ 100
  omega
end
abbrev s__law_place : Stmt := top 50
theorem sc__law_place : FnScope ["scene", "names", "card", "fields", "kind", "row", "name", "size"] ["scene", "names"] (defScope s__law_place) := ⟨rfl, rfl, rfl, by decide +kernel, rfl, by decide +kernel, by decide +kernel⟩
abbrev s__law_sizes : Stmt := top 51
theorem sc__law_sizes : FnScope ["scene", "sizes", "card", "fields", "value", "kind"] ["scene"] (defScope s__law_sizes) := ⟨rfl, rfl, rfl, by decide +kernel, rfl, by decide +kernel, by decide +kernel⟩
abbrev s__law_allowed : Stmt := top 52
theorem sc__law_allowed : FnScope ["scene", "row"] ["scene", "row"] (defScope s__law_allowed) := ⟨rfl, rfl, rfl, by decide +kernel, rfl, by decide +kernel, by decide +kernel⟩
abbrev s__law_answers : Stmt := top 53
theorem sc__law_answers : FnScope ["scene", "picks", "row", "card", "value", "number", "other", "place"] ["scene", "picks"] (defScope s__law_answers) := ⟨rfl, rfl, rfl, by decide +kernel, rfl, by decide +kernel, by decide +kernel⟩
def szO (s : Sc) (x : Nat × Nat) : Option Int := (s.cs[x.1]?.bind fun c => (kfS s.ks c)[x.2]?).map (·.2)
section
variable {P : Program} {w : World} {K : PySem.W.Frag} {mg : Str → Option Value} {base : Heap} {ca : Nat → Addr}
def aspLPlace : ASp := fun ds P => ∃ (cm mm : Nat) (s : Sc) (cn fn : Str), ds = [scnD s, .tup [.str cn, .str fn]] ∧ (ScOk cm mm s ∧ cm ≤ 3 ∧ HasPl s cn fn) ∧ P (plcD (plO s cn fn))
theorem ok_law_place {f : Addr} {fd : FuncData} (F : Fun K "_law_place" "_law_place" s__law_place f fd) (B : Blt mg) : FnOk P w K mg base CX0 1 f fd ["scene", "names"] (toSp K ca aspLPlace) := by
  refine F.ok sc__law_place (fun vs H Q E h => sp_len (n := 2) (fun ds P a => by obtain ⟨_, _, _, _, _, rfl, _⟩ := a; rfl) h) (fun cdv A outer s H vs Q E hr h => ⟨_, (pss_cons (ps_set (i := 2) sc__law_place.nd rfl (.inr rfl) (kbm (K := K) rfl PySem.F.plainAttrs_list PySem.F.slot_list_index PySem.F.type_list_index (kindex (K := K) rfl) (pe_lc (own := [("row", 5)]) (g := gName 5) (tt := tYes) rfl sc__law_place.nd (kpil (K := K) rfl (pe_dget (hu_of hr) (pv 0) pe_str (fun _ _ => rfl))) (blkOk_by (N := ["scene", "names", "card", "fields", "kind", "row", "name", "size"]) (sc := defScope s__law_place) (by decide +kernel))
        (fun _ _ _ _ _ => (pg_name (i := 5) sc__law_place.nd rfl (.inl rfl))) (fun _ _ _ _ _ => pts_nil)
        (fun _ _ _ _ _ => (pe_ix (kixs (K := K) rfl) (pv 5) pe_int (fun _ _ => rfl)))) (pa_cons (pe_ix (kixs (K := K) rfl) (pv 1) pe_int (fun _ _ => rfl)) pa_nil)))
      (pss_cons (ps_set (i := 3) sc__law_place.nd rfl (.inl rfl) (pe_ix (kixs (K := K) rfl) (pe_lc (own := [("kind", 4), ("fields", 3)]) rfl sc__law_place.nd (kpil (K := K) rfl (pe_dget (hu_of hr) (pv 0) pe_str (fun _ _ => rfl))) (blkOk_by (N := ["scene", "names", "card", "fields", "kind", "row", "name", "size"]) (sc := defScope s__law_place) (by decide +kernel))
        (fun _ _ _ _ _ => (kgtup (K := K) (n := 2) rfl rfl (pgs_cons (pg_name (i := 4) sc__law_place.nd rfl (.inl rfl)) (pgs_cons (pg_name (i := 3) sc__law_place.nd rfl (.inl rfl)) pgs_nil)))) (fun _ _ _ _ _ => pts_one (pt_cmpR op_eq (pv 4) (pe_ix (kixs (K := K) rfl) (pe_ix (kixs (K := K) rfl) (pe_dget (hu_of hr) (pv 0) pe_str (fun _ _ => rfl)) (pv 2) (fun _ _ => rfl)) pe_int (fun _ _ => rfl)) (nomark _)))
        (fun _ _ _ _ _ => (pv 3))) pe_int (fun _ _ => rfl)))
      (pss_one (ps_ret (pe_tupF (pa_cons (pv 2) (pa_cons (kbm (K := K) rfl PySem.F.plainAttrs_list PySem.F.slot_list_index PySem.F.type_list_index (kindex (K := K) rfl) (pe_lc (own := [("name", 6), ("size", 7)]) (tt := tYes) rfl sc__law_place.nd (kpit (K := K) rfl (pv 3)) (blkOk_by (N := ["scene", "names", "card", "fields", "kind", "row", "name", "size"]) (sc := defScope s__law_place) (by decide +kernel))
        (fun _ _ _ _ _ => (kgtup (K := K) (n := 2) rfl rfl (pgs_cons (pg_name (i := 6) sc__law_place.nd rfl (.inl rfl)) (pgs_cons (pg_name (i := 7) sc__law_place.nd rfl (.inl rfl)) pgs_nil)))) (fun _ _ _ _ _ => pts_nil)
        (fun _ _ _ _ _ => (pv 6))) (pa_cons (pe_ix (kixs (K := K) rfl) (pv 1) pe_int (fun _ _ => rfl)) pa_nil)) pa_nil))))))),
    fn_run h (fun po => (s_seq (s_set fun _ => (a_indexL (a_pk (a_fz (a_lc (vs := [5]) (i_list (a_dget a_var a_str)) (g_name (by decide)) a_yes (a_op pst_pk rok_ix (a_pk a_var) a_int)))) (a_op pst_pk rok_ix (a_pk a_var) a_int)))
      (s_seq (s_set fun _ => (a_op pst_pk rok_ix (a_pk (a_fz (a_lc (vs := [4, 3]) (i_list (a_dget a_var a_str)) (g_tup (g_cons (g_name (by decide)) (g_cons (g_name (by decide)) g_nil tot_name) tot_name)) (a_test (a_op pst_rv rok_eq a_var (a_op pst_pk rok_ix (a_pk (a_op pst_pk rok_ix (a_pk (a_dget a_var a_str)) a_var)) a_int))) a_var))) a_int))
      (s_ret fun _ => (a_tup (a_cons a_var (a_cons (a_indexL (a_pk (a_fz (a_lc (vs := [6, 7]) (i_tup a_var) (g_tup (g_cons (g_name (by decide)) (g_cons (g_name (by decide)) g_nil tot_name) tot_name)) a_yes a_var))) (a_op pst_pk rok_ix (a_pk a_var) a_int)) a_nil))))))) (fun ds P a => by obtain ⟨_, _, _, _, _, rfl, _⟩ := a; exact Nat.le_of_ble_eq_true rfl) ?_⟩)
  rintro ds P ⟨cm, mm, s, cn, fn, rfl, ⟨ok, c3, hpl⟩, hp⟩
  obtain ⟨c, f, h1, h2, h3, h4, h5, h6⟩ := hpl.at_ ok.nd
  have lc := ok.lc
  have mc := List.mem_of_getElem? h1
  obtain ⟨kf, mk⟩ := (ok.cd c mc).2.1
  have ekf : kfS s.ks c = kf := by unfold kfS; rw [lkK_of ok.kok mk]; rfl
  have k4 := kfS_le ok mc
  rw [ekf] at h4 h6 k4
  refine seqG fun N hN => ?_
  walk_at "dw"
  unfold aIndexL
  walk_at "dw"
  rw [sc_cards]
  walk_at "dw"
  refine ⟨by rw [List.length_map]; omega, ?_⟩
  refine lcA_mapL (g := fun c : Cd => Dat.str c.nm) (fun c hc Q hQ => ?_) ?_
  · unfold cdD
    walk_at "dw"
    exact hQ
  walk_at "dw"
  refine ⟨rfl, List.all_eq_true.mpr fun d hd => (by obtain ⟨x, _, rfl⟩ := List.mem_map.mp hd; rfl), (plO s cn fn).1, by rw [List.getElem?_map, h1, Option.map_some, h2], fun m hm hx => ?_, ?_⟩
  · rw [List.getElem?_map] at hx
    cases g : s.cs[m]? with
    | none =>
      rw [g] at hx
      cases hx
    | some y =>
      rw [g] at hx
      exact h3 m hm y g (by injection hx with hx; injection hx)
  subst hN
  refine seqG fun N hN => ?_
  walk_at "dw"
  rw [sc_kinds]
  walk_at "dw"
  have kl := ks_le ok.kok
  refine ⟨by rw [List.length_map]; omega, ?_⟩
  refine lcA_filL (g := fun z : Kd => Dat.tup (z.2.map fmD)) (fun z => decide (z.1 = c.kn)) (fun z hz Q q1 q2 => ?_) ?_
  · unfold kdT
    walk_at "dw"
    rw [sc_cards]
    walk_at "dw"
    refine oa_at rfl h1 ?_
    unfold cdD
    walk_at "dw"
    refine twoD (fun e => q1 (decide_eq_true e)) (fun e => q2 (decide_eq_false e))
  rw [ks_filt ok.kok mk]
  walk_at "dw"
  subst hN
  walk_at "dw"
  unfold aIndexL
  walk_at "dw"
  refine ⟨by rw [List.length_map]; omega, ?_⟩
  refine lcA_mapL (g := fun f : Fld => Dat.str f.1) (fun x hx Q hQ => ?_) ?_
  · unfold fmD
    walk_at "dw"
    exact hQ
  walk_at "dw"
  refine ⟨rfl, List.all_eq_true.mpr fun d hd => (by obtain ⟨x, _, rfl⟩ := List.mem_map.mp hd; rfl), (plO s cn fn).2, by rw [List.getElem?_map, h4, Option.map_some, h5], fun m hm hx => ?_, hp⟩
  rw [List.getElem?_map] at hx
  cases g : kf[m]? with
  | none =>
    rw [g] at hx
    cases hx
  | some y =>
    rw [g] at hx
    exact h6 m hm y g (by injection hx with hx; injection hx)
def aspLSizes : ASp := fun ds P => ∃ (cm mm : Nat) (s : Sc), ds = [scnD s] ∧ (ScOk cm mm s ∧ cm ≤ 3) ∧ ∀ ks vs, (∀ x : Nat × Nat, dgT ks vs [(x.1 : Int), (x.2 : Int)] = (szO s x).map Dat.int) → P (.dT ks vs)
theorem ok_law_sizes {f : Addr} {fd : FuncData} (F : Fun K "_law_sizes" "_law_sizes" s__law_sizes f fd) (B : Blt mg) : FnOk P w K mg base CX0 1 f fd ["scene"] (toSp K ca aspLSizes) := by
  refine F.ok sc__law_sizes (fun vs H Q E h => sp_len (n := 1) (fun ds P a => by obtain ⟨_, _, _, rfl, _⟩ := a; rfl) h) (fun cdv A outer s H vs Q E hr h => ⟨_, (pss_cons (ps_set (i := 1) sc__law_sizes.nd rfl (.inl rfl) pe_tnew)
      (pss_cons (ps_for PassesOwn.never rfl (pi_range1 rfl B.range (pa_cons (pe_callB (klen (K := K) rfl) (by rfl) B.len bt_len (pa_cons (pe_dget (hu_of hr) (pv 0) pe_str (fun _ _ => rfl)) pa_nil)) pa_nil)) (pg_name (i := 2) sc__law_sizes.nd rfl (.inr rfl))
      (pss_cons (ps_set (i := 3) sc__law_sizes.nd rfl (.inl rfl) (pe_ix (kixs (K := K) rfl) (pe_lc (own := [("kind", 5), ("fields", 3)]) rfl sc__law_sizes.nd (kpil (K := K) rfl (pe_dget (hu_of hr) (pv 0) pe_str (fun _ _ => rfl))) (blkOk_by (N := ["scene", "sizes", "card", "fields", "value", "kind"]) (sc := defScope s__law_sizes) (by decide +kernel))
        (fun _ _ _ _ _ => (kgtup (K := K) (n := 2) rfl rfl (pgs_cons (pg_name (i := 5) sc__law_sizes.nd rfl (.inl rfl)) (pgs_cons (pg_name (i := 3) sc__law_sizes.nd rfl (.inl rfl)) pgs_nil)))) (fun _ _ _ _ _ => pts_one (pt_cmpR op_eq (pv 5) (pe_ix (kixs (K := K) rfl) (pe_ix (kixs (K := K) rfl) (pe_dget (hu_of hr) (pv 0) pe_str (fun _ _ => rfl)) (pv 2) (fun _ _ => rfl)) pe_int (fun _ _ => rfl)) (nomark _)))
        (fun _ _ _ _ _ => (pv 3))) pe_int (fun _ _ => rfl)))
      (pss_one (ps_for PassesOwn.never rfl (pi_range1 rfl B.range (pa_cons (pe_callB (klen (K := K) rfl) (by rfl) B.len bt_len (pa_cons (pv 3) pa_nil)) pa_nil)) (pg_name (i := 4) sc__law_sizes.nd rfl (.inl rfl))
      (pss_one (ps_tput (hu_of hr) (pv 1) (pe_tupF (pa_cons (pv 2) (pa_cons (pv 4) pa_nil))) (pe_ix (kixs (K := K) rfl) (pe_ix (kixs (K := K) rfl) (pv 3) (pv 4) (fun _ _ => rfl)) pe_int (fun _ _ => rfl)) (by rfl)))))))
      (pss_one (ps_ret (pv 1))))),
    fn_run1 h (fun po => (z_seq (z_set fun _ => b_tnew)
      (z_seq (z_for (vs := [2]) (fun _ => (b_upI fun _ => (i_ran1 (a_cons (a_b1 u_len (a_pk (a_dget a_var a_str))) a_nil)))) (fun _ => (g_name (by decide)))
      (z_seq (z_set fun _ => (b_up fun _ => (a_op pst_pk rok_ix (a_pk (a_fz (a_lc (vs := [5, 3]) (i_list (a_dget a_var a_str)) (g_tup (g_cons (g_name (by decide)) (g_cons (g_name (by decide)) g_nil tot_name) tot_name)) (a_test (a_op pst_rv rok_eq a_var (a_op pst_pk rok_ix (a_pk (a_op pst_pk rok_ix (a_pk (a_dget a_var a_str)) a_var)) a_int))) a_var))) a_int)))
      (z_for (vs := [4]) (fun _ => (b_upI fun _ => (i_ran1 (a_cons (a_b1 u_len (a_pk a_var)) a_nil)))) (fun _ => (g_name (by decide)))
      (z_tput (fun _ => (b_up fun _ => (a_op pst_pk rok_ix (a_pk (a_op pst_pk rok_ix (a_pk a_var) a_var)) a_int))) (fun _ => (b_up fun _ => a_var)) (fun _ => (b_up fun _ => (a_tup (a_cons a_var (a_cons a_var a_nil)))))))))
      (z_stl (z_ret fun _ => (b_up fun _ => a_var)))))) (fun ds P a => by obtain ⟨_, _, _, rfl, _⟩ := a; exact Nat.le_of_ble_eq_true rfl) ?_⟩)
  rintro ds P ⟨cm, mm, s, rfl, ⟨ok, c3⟩, hp⟩
  have lc := ok.lc
  have kl := ks_le ok.kok
  refine zseqG fun N hN => ?_
  walk_at "wq"
  intro a _
  subst hN
  refine zseqG fun N hN => ?_
  walk_at "wq"
  rw [sc_cards]
  walk_at "wq"
  rw [List.length_map]
  refine ⟨by omega, by omega, ?_⟩
  rw [Int.toNat_natCast]
  have hSt : ∃ W : Nat → List Sl → Sto → Prop, ∀ i env M, W i env M ↔ ∃ (ks : List (List Int)) (vs : List Dat) (t2 t3 t4 t5 : Sl), env = [Sl.d (scnD s), Sl.d (.cell a), t2, t3, t4, t5] ∧ M a = some (.dT ks vs) ∧ ks.length = vs.length ∧ ks.length ≤ 16 * i ∧
    ∀ x : Nat × Nat, dgT ks vs [(x.1 : Int), (x.2 : Int)] = (if x.1 < i then szO s x else none).map Dat.int := ⟨_, fun _ _ _ => Iff.rfl⟩
  obtain ⟨W, hW⟩ := hSt
  refine forB_ran W ((hW _ _ _).mpr ⟨[], [], _, _, _, _, rfl, Sto.put_s, rfl, Nat.zero_le _, fun x => by rw [if_neg (by omega)]; rfl⟩) ?_ ?_
  · intro i env M hi w N2 hN2
    obtain ⟨ks, vs, t2, t3, t4, t5, rfl, hM, lk, lk2, hlk⟩ := (hW _ _ _).mp w
    clear w
    have hc := List.getElem?_eq_getElem hi
    have mc := List.getElem_mem hi
    generalize s.cs[i] = c at hc mc
    obtain ⟨kf, mk⟩ := (ok.cd c mc).2.1
    have ekf : kfS s.ks c = kf := by unfold kfS; rw [lkK_of ok.kok mk]; rfl
    have k4 := kfS_le ok mc
    rw [ekf] at k4
    refine zseqG fun N3 hN3 => ?_
    walk_at "wq"
    rw [sc_kinds]
    walk_at "wq"
    refine ⟨by rw [List.length_map]; omega, ?_⟩
    refine lcA_filL (g := fun z : Kd => Dat.tup (z.2.map fmD)) (fun z => decide (z.1 = c.kn)) (fun z hz Q q1 q2 => ?_) ?_
    · unfold kdT
      walk_at "dw"
      rw [sc_cards]
      walk_at "dw"
      refine oa_at (Int.zero_add _) hc ?_
      unfold cdD
      walk_at "dw"
      refine twoD (fun e => q1 (decide_eq_true e)) (fun e => q2 (decide_eq_false e))
    rw [ks_filt ok.kok mk]
    walk_at "wq"
    subst hN3
    walk_at "wq"
    rw [List.length_map]
    refine ⟨by omega, by omega, ?_⟩
    rw [Int.toNat_natCast]
    have hSt : ∃ W : Nat → List Sl → Sto → Prop, ∀ j env M, W j env M ↔ ∃ (ks : List (List Int)) (vs : List Dat) (t4 t5 : Sl), env = [Sl.d (scnD s), Sl.d (.cell a), Sl.d (.int (0 + (i : Int))), Sl.d (.tup (kf.map fmD)), t4, t5] ∧ M a = some (.dT ks vs) ∧ ks.length = vs.length ∧ ks.length ≤ 16 * i + j ∧
      ∀ x : Nat × Nat, dgT ks vs [(x.1 : Int), (x.2 : Int)] = (if x.1 < i ∨ (x.1 = i ∧ x.2 < j) then szO s x else none).map Dat.int := ⟨_, fun _ _ _ => Iff.rfl⟩
    obtain ⟨W2, hW2⟩ := hSt
    refine forB_ran W2 ((hW2 _ _ _).mpr ⟨ks, vs, _, _, rfl, hM, lk, by omega, fun x => by rw [hlk]; refine congrArg (Option.map Dat.int) (ite_iff ?_); omega⟩) ?_ ?_
    · intro j env M2 hj w N4 hN4
      obtain ⟨ks, vs, t4, t5, rfl, hM, lk, lk2, hlk⟩ := (hW2 _ _ _).mp w
      clear w
      have hf := List.getElem?_eq_getElem hj
      generalize kf[j] = fl at hf
      walk_at "wq"
      refine oa_at (Int.zero_add _) hf ?_
      unfold fmD
      walk_at "wq"
      rw [hM]
      walk_at "wq"
      refine ⟨by omega, ?_⟩
      have put := fun q => @dgT_put [0 + (i : Int), 0 + (j : Int)] q (.int fl.2) ks vs lk
      refine hN4 _ _ ((hW2 _ _ _).mpr ⟨_, _, _, _, rfl, Sto.put_s, (put []).2.1, by have := (put []).2.2; omega, fun x => ?_⟩)
      rw [(put _).1, hlk]
      by_cases e : i = x.1 ∧ j = x.2
      · obtain ⟨rfl, rfl⟩ := e
        rw [if_pos (by rw [Int.zero_add, Int.zero_add]), if_pos (.inr ⟨rfl, by omega⟩)]
        unfold szO
        rw [hc, Option.bind_some, ekf, hf]
        rfl
      · rw [if_neg (fun z => e (by rw [List.cons.injEq, List.cons.injEq] at z; omega))]
        refine congrArg (Option.map Dat.int) (ite_iff ?_)
        omega
    · intro env M2 w
      obtain ⟨ks, vs, t4, t5, rfl, hM, lk, lk2, hlk⟩ := (hW2 _ _ _).mp w
      refine hN2 _ _ ((hW _ _ _).mpr ⟨ks, vs, _, _, _, _, rfl, hM, lk, by omega, fun x => ?_⟩)
      rw [hlk]
      by_cases e : x.1 = i
      · rw [if_pos (show x.1 < i + 1 by omega)]
        by_cases g : x.2 < kf.length
        · rw [if_pos (.inr ⟨e, g⟩)]
        · rw [if_neg (by omega)]
          unfold szO
          rw [e, hc, Option.bind_some, ekf, List.getElem?_eq_none (by omega)]
          rfl
      · refine congrArg (Option.map Dat.int) (ite_iff ?_)
        omega
  · intro env M w
    obtain ⟨ks, vs, t2, t3, t4, t5, rfl, hM, lk, lk2, hlk⟩ := (hW _ _ _).mp w
    clear w hW W
    show N _ _
    subst hN
    refine ⟨[Sl.d (scnD s), Sl.d (.dT ks (vs.map (vwX 0 M))), t2, t3, t4, t5], ?_, ?_⟩
    · exact .cons (.inl rfl) (.cons (.inr ⟨1, _, rfl, by rw [vx_dT hM]⟩) (.cons (.inl rfl) (.cons (.inl rfl) (.cons (.inl rfl) (.cons (.inl rfl) .nil)))))
    rw [show vs.map (vwX 0 M) = vs from List.map_id vs]
    walk_at "wq"
    refine hp _ _ fun x => ?_
    rw [hlk]
    split
    · rfl
    · unfold szO
      rw [List.getElem?_eq_none (by omega)]
      rfl
/-- what a condition lets, as the law has it -/
def alw (s : Sc) : Cnd → List Int
  | .equal _ _ n => [n]
  | .least c f n => (List.range (((szO s (plO s c f)).getD 0) - n).toNat).map fun (i : Nat) => n + (i : Int)
  | .among _ _ ns => ns
  | _ => []
def isEla : Cnd → Prop
  | .equal _ _ _ => True
  | .least _ _ _ => True
  | .among _ _ _ => True
  | _ => False
theorem sz_has {s : Sc} {cm mm : Nat} (ok : ScOk cm mm s) {cn fn : Str} (h : HasPl s cn fn) : ∃ z, szO s (plO s cn fn) = some z ∧ 1 ≤ z ∧ z ≤ 16 := by
  obtain ⟨c, f, h1, _, _, h4, _⟩ := h.at_ ok.nd
  obtain ⟨kf, mk⟩ := (ok.cd c (List.mem_of_getElem? h1)).2.1
  have ekf : kfS s.ks c = kf := by unfold kfS; rw [lkK_of ok.kok mk]; rfl
  refine ⟨f.2, by unfold szO; rw [h1, Option.bind_some, h4]; rfl, ?_⟩
  rw [ekf] at h4
  exact ((ok.kok.fs _ mk).2 f (List.mem_of_getElem? h4)).2
theorem es_of {cm mm : Nat} {s : Sc} (ok : ScOk cm mm s) (c3 : cm ≤ 3) : (fesA s.ks (s.cs.zip (s.pk0.zip s.pk1))).length ≤ 40 ∧ ∀ e ∈ fesA s.ks (s.cs.zip (s.pk0.zip s.pk1)), (0 ≤ e.b0 ∧ e.b0 < e.sz) ∧ (0 ≤ e.b1 ∧ e.b1 < e.sz) ∧ e.sz ≤ 16 ∧ PyData.strOk e.cn = true ∧ PyData.strOk e.fn = true := by
  have lc := ok.lc
  have lr := ok.lr
  have l0 := ok.l0
  have l1 := ok.l1
  refine fes_ok (q := s.q) ok.kok (by omega) l0 l1 (fun c hc => ⟨(ok.cd c hc).1, (ok.cd c hc).2.1⟩) fun k c x y g1 g2 g3 => ?_
  have lk := (List.getElem?_eq_some_iff.mp g1).1
  have e := ok.at_ k c _ x y g1 (List.getElem?_eq_getElem (by omega)) g2 g3
  exact ⟨e.1, e.2.1⟩
theorem least_rng {cm mm : Nat} {s : Sc} (ok : ScOk cm mm s) (c3 : cm ≤ 3) {c f : Str} {n : Int} (m : Cnd.least c f n ∈ s.co) : 0 ≤ n ∧ n ≤ 16 := by
  have h := ok.cn _ m
  cases h with
  | least e h n n0 h0 h1 =>
    have := (es_of ok c3).2 e h
    omega
def aspLAlw : ASp := fun ds P => ∃ (cm mm : Nat) (s : Sc) (x : Cnd), ds = [scnD s, cndD x] ∧ (ScOk cm mm s ∧ cm ≤ 3 ∧ x ∈ s.co ∧ isEla x) ∧ P (.lst ((alw s x).map .int))
theorem ok_law_allowed {f : Addr} {fd : FuncData} (F : Fun K "_law_allowed" "_law_allowed" s__law_allowed f fd) (B : Blt mg) (C__law_sizes : C8.Cal P w K mg base 1 "_law_sizes" (toSp K ca aspLSizes) []) (C__law_place : C8.Cal P w K mg base 1 "_law_place" (toSp K ca aspLPlace) []) : FnOk P w K mg base CX0 2 f fd ["scene", "row"] (toSp K ca aspLAlw) := by
  refine F.ok sc__law_allowed (fun vs H Q E h => sp_len (n := 2) (fun ds P a => by obtain ⟨_, _, _, _, rfl, _⟩ := a; rfl) h) (fun cdv A outer s H vs Q E hr h => ⟨_, (pss_cons (ps_if (pt_cmpR op_eq (pe_ix (kixs (K := K) rfl) (pv 1) pe_int (fun _ _ => rfl)) pe_str (nomark _)) (pss_one (ps_ret (pe_callTy (klistRng rfl) (by rfl) B.list bt_list (pa_cons (pe_callTy cr_range2 (by rfl) B.range bt_range (pa_cons (pe_ix (kixs (K := K) rfl) (pv 1) pe_int (fun _ _ => rfl)) (pa_cons (pe_tget (hu_of hr) (C8.pe_c C__law_sizes hr (by omega) rfl (pa_cons (pv 0) pa_nil)) (C8.pe_c C__law_place hr (by omega) rfl (pa_cons (pv 0) (pa_cons (pe_slice (kslF (K := K) rfl) (pv 1) (po_some pe_int) (po_some pe_int)) pa_nil))) (fun _ _ => rfl)) pa_nil))) pa_nil)))) pss_nil)
      (pss_cons (ps_if (pt_cmpR op_eq (pe_ix (kixs (K := K) rfl) (pv 1) pe_int (fun _ _ => rfl)) pe_str (nomark _)) (pss_one (ps_ret (pe_callTy (klist (K := K) rfl) (by rfl) B.list bt_list (pa_cons (pe_ix (kixs (K := K) rfl) (pv 1) pe_int (fun _ _ => rfl)) pa_nil)))) pss_nil)
      (pss_one (ps_ret (pe_lst (pa_cons (pe_ix (kixs (K := K) rfl) (pv 1) pe_int (fun _ _ => rfl)) pa_nil)))))),
    fn_run h (fun po => (s_seq (s_if (fun _ => (a_test (a_op pst_rv rok_eq (a_op pst_pk rok_ix (a_pk a_var) a_int) a_str))) (s_ret fun _ => (a_fz (a_lrng (a_cons (a_op pst_pk rok_ix (a_pk a_var) a_int) (a_cons (a_tget (a_call (a_cons a_var a_nil)) (a_call (a_cons a_var (a_cons (a_slT a_var (ao_some a_int) (ao_some a_int)) a_nil)))) a_nil))))) s_next)
      (s_seq (s_if (fun _ => (a_test (a_op pst_rv rok_eq (a_op pst_pk rok_ix (a_pk a_var) a_int) a_str))) (s_ret fun _ => (a_fz (a_b1F u_listOf (a_pk (a_op pst_pk rok_ix (a_pk a_var) a_int))))) s_next)
      (s_ret fun _ => (a_fz (a_lst (a_cons (a_op pst_pk rok_ix (a_pk a_var) a_int) a_nil))))))) (fun ds P a => by obtain ⟨_, _, _, _, rfl, _⟩ := a; exact Nat.le_of_ble_eq_true rfl) ?_⟩)
  rintro ds P ⟨cm, mm, s, x, rfl, ⟨ok, c3, mx, hx⟩, hp⟩
  have hpl := cnd_pl (ok.cn x mx)
  refine seqG fun N hN => ?_
  cases x with
  | tell c f => exact hx.elim
  | same c f c2 f2 => exact hx.elim
  | equal c f n =>
    unfold cndD
    walk_at "dw"
    subst hN
    refine seqG fun N hN => ?_
    walk_at "dw"
    subst hN
    walk_at "dw"
    exact hp
  | among c f ns =>
    unfold cndD
    walk_at "dw"
    subst hN
    refine seqG fun N hN => ?_
    walk_at "dw"
    exact hp
  | least c f n =>
    unfold cndD
    walk_at "dw"
    rw [show cutD [Dat.str (Str.ofString "least"), Dat.str c, Dat.str f, Dat.int n] (some 1) (some 3) = [.str c, .str f] from rfl]
    refine ⟨cm, mm, s, rfl, ⟨ok, c3⟩, fun ks vs hl => ?_⟩
    refine ⟨cm, mm, s, c, f, rfl, ⟨ok, c3, hpl⟩, ?_⟩
    obtain ⟨z, hz, z1, z16⟩ := sz_has ok hpl
    obtain ⟨n0, n16⟩ := least_rng ok c3 mx
    unfold plcD
    walk_at "dw"
    rw [hl, hz]
    walk_at "dw"
    refine ⟨by omega, by omega, ?_⟩
    have e : (alw s (.least c f n)).map Dat.int = (List.range (z - n).toNat).map fun (i : Nat) => Dat.int (n + (i : Int)) := by
      unfold alw
      dsimp only
      rw [hz, List.map_map]
      rfl
    rw [e] at hp
    exact hp
end
/-- values within their fields -/
structure PsR (s : Sc) (ps : List Pk3) : Prop where
  ln : ps.length = s.cs.length
  at_ : ∀ (k : Nat) c p, s.cs[k]? = some c → ps[k]? = some p → Paired (fun (f : Fld) v => 0 ≤ v ∧ v < f.2) (kfS s.ks c) p.vs
theorem PsR.ok {s : Sc} {ps : List Pk3} (h : PsR s ps) : PsOk s ps := ⟨h.ln, fun k c p h1 h2 => prd_len (h.at_ k c p h1 h2)⟩
theorem PsR.look {s : Sc} {ps : List Pk3} {cm mm : Nat} (h : PsR s ps) (ok : ScOk cm mm s) {cn fn : Str} (hp : HasPl s cn fn) : ∃ p v z, ps[(plO s cn fn).1]? = some p ∧ p.vs[(plO s cn fn).2]? = some v ∧ lookP ps (plO s cn fn) = some v ∧ szO s (plO s cn fn) = some z ∧ 0 ≤ v ∧ v < z := by
  obtain ⟨c, f, h1, _, _, h4, _⟩ := hp.at_ ok.nd
  have l1 := (List.getElem?_eq_some_iff.mp h1).1
  have l2 := (List.getElem?_eq_some_iff.mp h4).1
  have e := List.getElem?_eq_getElem (l := ps) (i := (plO s cn fn).1) (by rw [h.ln]; exact l1)
  have l3 := h.ok.at_ _ _ _ h1 e
  generalize ps[(plO s cn fn).1]'(by rw [h.ln]; exact l1) = p at e l3
  have e2 := List.getElem?_eq_getElem (l := p.vs) (i := (plO s cn fn).2) (by omega)
  generalize p.vs[(plO s cn fn).2]'(by omega) = v at e2
  have r : 0 ≤ v ∧ v < f.2 := prd_get (R := fun (f : Fld) v => 0 ≤ v ∧ v < f.2) (h.at_ _ c p h1 e) h4 e2
  refine ⟨p, v, f.2, e, e2, by unfold lookP; rw [e, Option.bind_some, e2], by unfold szO; rw [h1, Option.bind_some, h4]; rfl, r.1, r.2⟩
def plC (s : Sc) : Cnd → Nat × Nat
  | .tell c f => plO s c f
  | .equal c f _ => plO s c f
  | .least c f _ => plO s c f
  | .among c f _ => plO s c f
  | .same c f _ _ => plO s c f
/-- the law's test of a condition is the document's -/
theorem alw_meet {s : Sc} {ps : List Pk3} {cm mm : Nat} (h : PsR s ps) (ok : ScOk cm mm s) (c3 : cm ≤ 3) {x : Cnd} (mx : x ∈ s.co) (hx : isEla x) {v : Int} (hk : lookP ps (plC s x) = some v) : meetB s (lookP ps) x = decide (v ∈ alw s x) := by
  have hpl := cnd_pl (ok.cn x mx)
  cases x with
  | tell c f => exact hx.elim
  | same c f c2 f2 => exact hx.elim
  | equal c f n =>
    rw [mb_e hk]
    exact decide_eq_decide.mpr ⟨fun e => by rw [e]; exact List.mem_singleton.mpr rfl, fun m => List.mem_singleton.mp m⟩
  | among c f ns =>
    rw [mb_a hk]
    rfl
  | least c f n =>
    obtain ⟨p, v', z, _, _, h1, h2, h3, h4⟩ := h.look ok hpl
    rw [show lookP ps (plO s c f) = some v from hk] at h1
    cases h1
    obtain ⟨n0, n16⟩ := least_rng ok c3 mx
    rw [mb_l hk]
    refine decide_eq_decide.mpr ?_
    unfold alw
    dsimp only
    rw [h2]
    constructor
    · intro e
      exact List.mem_map.mpr ⟨(v - n).toNat, List.mem_range.mpr (by show (v - n).toNat < (z - n).toNat; omega), by omega⟩
    · intro m
      obtain ⟨i, _, rfl⟩ := List.mem_map.mp m
      omega
section
variable {P : Program} {w : World} {K : PySem.W.Frag} {mg : Str → Option Value} {base : Heap} {ca : Nat → Addr}
def aspLAns : ASp := fun ds P => ∃ (cm mm : Nat) (s : Sc) (ps : List Pk3), ds = [scnD s, .lst (ps.map pk3D)] ∧ (ScOk cm mm s ∧ cm ≤ 3 ∧ mm ≤ 10 ∧ PsR s ps) ∧ P (.bl (s.co.all (meetB s (lookP ps))))
theorem ok_law_answers {f : Addr} {fd : FuncData} (F : Fun K "_law_answers" "_law_answers" s__law_answers f fd) (C__law_allowed : C8.Cal P w K mg base 2 "_law_allowed" (toSp K ca aspLAlw) []) (C__law_place : C8.Cal P w K mg base 1 "_law_place" (toSp K ca aspLPlace) []) : FnOk P w K mg base CX0 3 f fd ["scene", "picks"] (toSp K ca aspLAns) := by
  refine F.ok sc__law_answers (fun vs H Q E h => sp_len (n := 2) (fun ds P a => by obtain ⟨_, _, _, _, rfl, _⟩ := a; rfl) h) (fun cdv A outer s H vs Q E hr h => ⟨_, (pss_cons (ps_for PassesOwn.never rfl (kpil (K := K) rfl (pe_dget (hu_of hr) (pv 0) pe_str (fun _ _ => rfl))) (pg_name (i := 2) sc__law_answers.nd rfl (.inl rfl))
      (pss_cons (ps_asg (C8.pe_c C__law_place hr (by omega) rfl (pa_cons (pv 0) (pa_cons (pe_slice (kslF (K := K) rfl) (pv 2) (po_some pe_int) (po_some pe_int)) pa_nil))) (kgtup (K := K) (n := 2) rfl rfl (pgs_cons (pg_name (i := 3) sc__law_answers.nd rfl (.inl rfl)) (pgs_cons (pg_name (i := 4) sc__law_answers.nd rfl (.inl rfl)) pgs_nil))))
      (pss_cons (ps_set (i := 5) sc__law_answers.nd rfl (.inl rfl) (pe_ix (kixs (K := K) rfl) (pe_ix (kixs (K := K) rfl) (pe_ix (kixs (K := K) rfl) (pv 1) (pv 3) (fun _ _ => rfl)) pe_int (fun _ _ => rfl)) (pv 4) (fun _ _ => rfl)))
      (pss_one (ps_if (pt_cmpR op_eq (pe_ix (kixs (K := K) rfl) (pv 2) pe_int (fun _ _ => rfl)) pe_str (nomark _)) (pss_cons (ps_asg (C8.pe_c C__law_place hr (by omega) rfl (pa_cons (pv 0) (pa_cons (pe_slice (kslF (K := K) rfl) (pv 2) (po_some pe_int) (po_some pe_int)) pa_nil))) (kgtup (K := K) (n := 2) rfl rfl (pgs_cons (pg_name (i := 6) sc__law_answers.nd rfl (.inl rfl)) (pgs_cons (pg_name (i := 7) sc__law_answers.nd rfl (.inl rfl)) pgs_nil))))
      (pss_one (ps_if (pt_cmpR op_ne (pe_ix (kixs (K := K) rfl) (pe_ix (kixs (K := K) rfl) (pe_ix (kixs (K := K) rfl) (pv 1) (pv 6) (fun _ _ => rfl)) pe_int (fun _ _ => rfl)) (pv 7) (fun _ _ => rfl)) (pv 5) (nomark _)) (pss_one (ps_ret pe_bl)) pss_nil))) (pss_one (ps_if (PW.pt (pw_and (pt_cmpR op_ne (pe_ix (kixs (K := K) rfl) (pv 2) pe_int (fun _ _ => rfl)) pe_str (nomark _)) (pw_and1 (pt_cmpR (knin (K := K) rfl) (pv 5) (C8.pe_c C__law_allowed hr (by omega) rfl (pa_cons (pv 0) (pa_cons (pv 2) pa_nil))) rfl)))) (pss_one (ps_ret pe_bl)) pss_nil)))))))
      (pss_one (ps_ret pe_bl))),
    fn_run h (fun po => (s_seq (s_for (vs := [2]) (fun _ => (i_list (a_dget a_var a_str))) (fun _ => (g_name (by decide)))
      (s_seq (s_asg (vs := [3, 4]) (fun _ => (a_call (a_cons a_var (a_cons (a_slT a_var (ao_some a_int) (ao_some a_int)) a_nil)))) (fun _ => (g_tup (g_cons (g_name (by decide)) (g_cons (g_name (by decide)) g_nil tot_name) tot_name))))
      (s_seq (s_set fun _ => (a_op pst_pk rok_ix (a_pk (a_op pst_pk rok_ix (a_pk (a_op pst_pk rok_ix (a_pk a_var) a_var)) a_int)) a_var))
      (s_if (fun _ => (a_test (a_op pst_rv rok_eq (a_op pst_pk rok_ix (a_pk a_var) a_int) a_str))) (s_seq (s_asg (vs := [6, 7]) (fun _ => (a_call (a_cons a_var (a_cons (a_slT a_var (ao_some a_int) (ao_some a_int)) a_nil)))) (fun _ => (g_tup (g_cons (g_name (by decide)) (g_cons (g_name (by decide)) g_nil tot_name) tot_name))))
      (s_if (fun _ => (a_test (a_op pst_rv rok_ne (a_op pst_pk rok_ix (a_pk (a_op pst_pk rok_ix (a_pk (a_op pst_pk rok_ix (a_pk a_var) a_var)) a_int)) a_var) a_var))) (s_ret fun _ => a_bl) s_next)) (s_if (fun _ => (a_and (a_test (a_op pst_rv rok_ne (a_op pst_pk rok_ix (a_pk a_var) a_int) a_str)) (a_test (a_op pst_rv rok_in a_var (a_pk (a_call (a_cons a_var (a_cons a_var a_nil)))))))) (s_ret fun _ => a_bl) s_next)))))
      (s_ret fun _ => a_bl))) (fun ds P a => by obtain ⟨_, _, _, _, rfl, _⟩ := a; exact Nat.le_of_ble_eq_true rfl) ?_⟩)
  rintro ds P ⟨cm, mm, s, ps, rfl, ⟨ok, c3, m10, psr⟩, hp⟩
  refine seqG fun N hN => ?_
  walk_at "dw"
  rw [sc_conds]
  walk_at "dw"
  have hSt : ∃ W : List Cnd → List Sl → Prop, ∀ xs env, W xs env ↔ ∃ (dn : List Cnd) (t2 t3 t4 t5 t6 t7 : Sl), env = [Sl.d (scnD s), Sl.d (.lst (ps.map pk3D)), t2, t3, t4, t5, t6, t7] ∧ dn ++ xs = s.co ∧ dn.all (meetB s (lookP ps)) = true := ⟨_, fun _ _ => Iff.rfl⟩
  obtain ⟨W, hW⟩ := hSt
  refine forA_suf (f := cndD) W ?_ ?_ s.co _ ((hW _ _).mpr ⟨[], _, _, _, _, _, _, rfl, rfl, rfl⟩)
  · intro x xs env w N2 hN2
    obtain ⟨dn, t2, t3, t4, t5, t6, t7, rfl, edn, hdn⟩ := (hW _ _).mp w
    clear w
    have mx : x ∈ s.co := by rw [← edn]; exact List.mem_append.mpr (.inr List.mem_cons_self)
    have yes : meetB s (lookP ps) x = true → ∀ t2 t3 t4 t5 t6 t7 : Sl, N2 [Sl.d (scnD s), Sl.d (.lst (ps.map pk3D)), t2, t3, t4, t5, t6, t7] := fun h t2 t3 t4 t5 t6 t7 => hN2 _ ((hW _ _).mpr ⟨dn ++ [x], _, _, _, _, _, _, rfl, by rw [List.append_assoc]; exact edn, by rw [List.all_append, hdn, List.all_cons, h]; rfl⟩)
    have no : meetB s (lookP ps) x = false → P (.bl false) := fun h => by
      have e : s.co.all (meetB s (lookP ps)) = false := by
        rw [← edn, List.all_append, List.all_cons, h, Bool.false_and, Bool.and_false]
      rw [e] at hp
      exact hp
    clear hN2 hW W
    refine seqG fun N3 hN3 => ?_
    have hpl := cnd_pl (ok.cn x mx)
    cases x with
    | tell c f =>
      obtain ⟨p, v, z, hp1, hp2, hk, hz, v0, v1⟩ := psr.look ok (show HasPl s c f from hpl)
      unfold cndD
      walk_at "dw"
      rw [show cutD [Dat.str (Str.ofString "tell"), Dat.str c, Dat.str f] (some 1) (some 3) = [.str c, .str f] from rfl]
      refine ⟨cm, mm, s, c, f, rfl, ⟨ok, c3, hpl⟩, ?_⟩
      unfold plcD
      walk_at "dw"
      subst hN3
      refine seqG fun N3 hN3 => ?_
      walk_at "dw"
      refine oa_at rfl hp1 ?_
      rw [show pk3D p = .tup [.int p.row, .int p.rd, .tup (p.vs.map .int)] from rfl]
      walk_at "dw"
      refine oa_at rfl hp2 ?_
      walk_at "dw"
      subst hN3
      walk_at "dw"
      exact yes rfl _ _ _ _ _ _
    | equal c f n =>
      obtain ⟨p, v, z, hp1, hp2, hk, hz, v0, v1⟩ := psr.look ok (show HasPl s c f from hpl)
      unfold cndD
      walk_at "dw"
      rw [show cutD [Dat.str (Str.ofString "equal"), Dat.str c, Dat.str f, Dat.int n] (some 1) (some 3) = [.str c, .str f] from rfl]
      refine ⟨cm, mm, s, c, f, rfl, ⟨ok, c3, hpl⟩, ?_⟩
      unfold plcD
      walk_at "dw"
      subst hN3
      refine seqG fun N3 hN3 => ?_
      walk_at "dw"
      refine oa_at rfl hp1 ?_
      rw [show pk3D p = .tup [.int p.row, .int p.rd, .tup (p.vs.map .int)] from rfl]
      walk_at "dw"
      refine oa_at rfl hp2 ?_
      walk_at "dw"
      subst hN3
      walk_at "dw"
      refine ⟨cm, mm, s, .equal c f n, rfl, ⟨ok, c3, mx, trivial⟩, ?_⟩
      refine kIn_i ?_
      have hiff := alw_meet psr ok c3 mx trivial hk
      rw [if_pos rfl]
      walk_at "dw"
      exact twoN (fun e => no (by rw [hiff]; exact decide_eq_false e)) (fun e => yes (by rw [hiff]; exact decide_eq_true e) _ _ _ _ _ _)
    | least c f n =>
      obtain ⟨p, v, z, hp1, hp2, hk, hz, v0, v1⟩ := psr.look ok (show HasPl s c f from hpl)
      unfold cndD
      walk_at "dw"
      rw [show cutD [Dat.str (Str.ofString "least"), Dat.str c, Dat.str f, Dat.int n] (some 1) (some 3) = [.str c, .str f] from rfl]
      refine ⟨cm, mm, s, c, f, rfl, ⟨ok, c3, hpl⟩, ?_⟩
      unfold plcD
      walk_at "dw"
      subst hN3
      refine seqG fun N3 hN3 => ?_
      walk_at "dw"
      refine oa_at rfl hp1 ?_
      rw [show pk3D p = .tup [.int p.row, .int p.rd, .tup (p.vs.map .int)] from rfl]
      walk_at "dw"
      refine oa_at rfl hp2 ?_
      walk_at "dw"
      subst hN3
      walk_at "dw"
      refine ⟨cm, mm, s, .least c f n, rfl, ⟨ok, c3, mx, trivial⟩, ?_⟩
      refine kIn_i ?_
      have hiff := alw_meet psr ok c3 mx trivial hk
      rw [if_pos rfl]
      walk_at "dw"
      exact twoN (fun e => no (by rw [hiff]; exact decide_eq_false e)) (fun e => yes (by rw [hiff]; exact decide_eq_true e) _ _ _ _ _ _)
    | among c f ns =>
      obtain ⟨p, v, z, hp1, hp2, hk, hz, v0, v1⟩ := psr.look ok (show HasPl s c f from hpl)
      unfold cndD
      walk_at "dw"
      rw [show cutD [Dat.str (Str.ofString "among"), Dat.str c, Dat.str f, Dat.tup (ns.map .int)] (some 1) (some 3) = [.str c, .str f] from rfl]
      refine ⟨cm, mm, s, c, f, rfl, ⟨ok, c3, hpl⟩, ?_⟩
      unfold plcD
      walk_at "dw"
      subst hN3
      refine seqG fun N3 hN3 => ?_
      walk_at "dw"
      refine oa_at rfl hp1 ?_
      rw [show pk3D p = .tup [.int p.row, .int p.rd, .tup (p.vs.map .int)] from rfl]
      walk_at "dw"
      refine oa_at rfl hp2 ?_
      walk_at "dw"
      subst hN3
      walk_at "dw"
      refine ⟨cm, mm, s, .among c f ns, rfl, ⟨ok, c3, mx, trivial⟩, ?_⟩
      refine kIn_i ?_
      have hiff := alw_meet psr ok c3 mx trivial hk
      rw [if_pos rfl]
      walk_at "dw"
      exact twoN (fun e => no (by rw [hiff]; exact decide_eq_false e)) (fun e => yes (by rw [hiff]; exact decide_eq_true e) _ _ _ _ _ _)
    | same c f c2 f2 =>
      obtain ⟨p, v, z, hp1, hp2, hk, hz, v0, v1⟩ := psr.look ok (show HasPl s c f from hpl.1)
      unfold cndD
      walk_at "dw"
      rw [show cutD [Dat.str (Str.ofString "same"), Dat.str c, Dat.str f, Dat.str c2, Dat.str f2] (some 1) (some 3) = [.str c, .str f] from rfl]
      refine ⟨cm, mm, s, c, f, rfl, ⟨ok, c3, hpl.1⟩, ?_⟩
      unfold plcD
      walk_at "dw"
      subst hN3
      refine seqG fun N3 hN3 => ?_
      walk_at "dw"
      refine oa_at rfl hp1 ?_
      rw [show pk3D p = .tup [.int p.row, .int p.rd, .tup (p.vs.map .int)] from rfl]
      walk_at "dw"
      refine oa_at rfl hp2 ?_
      walk_at "dw"
      subst hN3
      walk_at "dw"
      obtain ⟨p2, v2, z2, hq1, hq2, hk2, _, _, _⟩ := psr.look ok (show HasPl s c2 f2 from hpl.2)
      refine seqG fun N3 hN3 => ?_
      walk_at "dw"
      rw [show cutD [Dat.str (Str.ofString "same"), Dat.str c, Dat.str f, Dat.str c2, Dat.str f2] (some 3) (some 5) = [.str c2, .str f2] from rfl]
      refine ⟨cm, mm, s, c2, f2, rfl, ⟨ok, c3, hpl.2⟩, ?_⟩
      unfold plcD
      walk_at "dw"
      subst hN3
      walk_at "dw"
      refine oa_at rfl hq1 ?_
      rw [show pk3D p2 = .tup [.int p2.row, .int p2.rd, .tup (p2.vs.map .int)] from rfl]
      walk_at "dw"
      refine oa_at rfl hq2 ?_
      walk_at "dw"
      have hm := mb_s hk hk2
      exact twoN (fun e => no (by rw [hm]; exact decide_eq_false fun z => e z.symm)) (fun e => yes (by rw [hm]; exact decide_eq_true e.symm) _ _ _ _ _ _)
  · intro env w
    obtain ⟨dn, t2, t3, t4, t5, t6, t7, rfl, edn, hdn⟩ := (hW _ _).mp w
    rw [List.append_nil] at edn
    subst edn
    show N _
    subst hN
    walk_at "dw"
    rw [hdn] at hp
    exact hp
end
abbrev s__law_holdings : Stmt := top 54
theorem sc__law_holdings : FnScope ["pool", "scene", "side", "holdings", "turn", "card", "place", "randomness", "numbers", "way", "fields", "issuer", "index", "element", "kind", "name", "size"] ["pool", "scene", "side"] (defScope s__law_holdings) := ⟨rfl, rfl, rfl, by decide +kernel, rfl, by decide +kernel, by decide +kernel⟩
abbrev s__law_first : Stmt := top 55
theorem sc__law_first : FnScope ["scene", "holdings", "found", "card", "more", "rows", "picks", "issuer", "index", "kind", "randomness", "numbers", "row"] ["scene", "holdings"] (defScope s__law_first) := ⟨rfl, rfl, rfl, by decide +kernel, rfl, by decide +kernel, by decide +kernel⟩
theorem kfS_kn {ks : List Kd} {c d : Cd} (h : c.kn = d.kn) : kfS ks c = kfS ks d := by unfold kfS; rw [h]
/-- a side's picks -/
def pkS (s : Sc) (side : Nat) : List Pk3 := if side = 0 then s.pk0 else s.pk1
theorem pks_at {s : Sc} {side : Nat} (h : side < 2) : ([.lst (s.pk0.map pk3D), .lst (s.pk1.map pk3D)] : List Dat)[side]? = some (.lst ((pkS s side).map pk3D)) := by
  rcases side with _ | _ | n
  · rfl
  · rfl
  · omega
theorem pks_ok {cm mm : Nat} {s : Sc} (ok : ScOk cm mm s) (side : Nat) {k : Nat} {c : Cd} (hc : s.cs[k]? = some c) : ∃ p r, (pkS s side)[k]? = some p ∧ s.rows[k]? = some r ∧ PkOk s.q (kfS s.ks c) p ∧ (∃ i x, p.row = ((i : Nat) : Int) ∧ r[i]? = some x) ∧ 2 ≤ r.length ∧ r.length ≤ 4 ∧ ∀ x ∈ r, PyData.strOk x.1 = true := by
  have lj := (List.getElem?_eq_some_iff.mp hc).1
  have lr := ok.lr
  have l0 := ok.l0
  have l1 := ok.l1
  have e := ok.at_ k c _ _ _ hc (List.getElem?_eq_getElem (by omega)) (List.getElem?_eq_getElem (by omega)) (List.getElem?_eq_getElem (by omega))
  have rs := rows_str ok (List.getElem?_eq_getElem (l := s.rows) (i := k) (by omega))
  have rs2 : ∀ x ∈ s.rows[k]'(by omega), PyData.strOk x.1 = true := fun x hx => rs.2 (pairOf x) (List.mem_map.mpr ⟨x, hx, rfl⟩)
  obtain ⟨i0, x0, a1, a2, _⟩ := e.2.2.a0
  obtain ⟨i1, x1, b1, b2, _⟩ := e.2.2.a1
  unfold pkS
  by_cases z : side = 0
  · rw [if_pos z]
    exact ⟨_, _, List.getElem?_eq_getElem (by omega), List.getElem?_eq_getElem (by omega), e.1, ⟨i0, x0, a1, a2⟩, e.2.2.ln.1, e.2.2.ln.2, rs2⟩
  · rw [if_neg z]
    exact ⟨_, _, List.getElem?_eq_getElem (by omega), List.getElem?_eq_getElem (by omega), e.2.1, ⟨i1, x1, b1, b2⟩, e.2.2.ln.1, e.2.2.ln.2, rs2⟩
section
variable {P : Program} {w : World} {K : PySem.W.Frag} {mg : Str → Option Value} {base : Heap} {ca : Nat → Addr}
def aspLHold : ASp := fun ds P => ∃ (cm mm : Nat) (s : Sc) (side : Nat), ds = [.pool, scnD s, .int side] ∧ (ScOk cm mm s ∧ cm ≤ 3 ∧ side < 2) ∧ ∀ hs, HdsOk s hs → P (.lst (hs.map hdD))
theorem ok_law_holdings {f : Addr} {fd : FuncData} (F : Fun K "_law_holdings" "_law_holdings" s__law_holdings f fd) (B : Blt mg) (C__law_draw : C8.Cal P w K mg base 1 "_law_draw" (toSp K ca aspDraw) []) : FnOk P w K mg base CX0 2 f fd ["pool", "scene", "side"] (toSp K ca aspLHold) := by
  refine F.ok sc__law_holdings (fun vs H Q E h => sp_len (n := 3) (fun ds P a => by obtain ⟨_, _, _, _, rfl, _⟩ := a; rfl) h) (fun cdv A outer s H vs Q E hr h => ⟨_, (pss_cons (ps_set (i := 3) sc__law_holdings.nd rfl (.inl rfl) (pe_lst pa_nil))
      (pss_cons (ps_for PassesOwn.never rfl (pi_range1 rfl B.range (pa_cons (C8.pe_c C__law_draw hr (by omega) rfl (pa_cons (pv 0) (pa_cons pe_int pa_nil))) pa_nil)) (pg_name (i := 4) sc__law_holdings.nd rfl (.inl rfl))
      (pss_cons (ps_set (i := 5) sc__law_holdings.nd rfl (.inr rfl) (C8.pe_c C__law_draw hr (by omega) rfl (pa_cons (pv 0) (pa_cons (pe_callB (klen (K := K) rfl) (by rfl) B.len bt_len (pa_cons (pe_dget (hu_of hr) (pv 1) pe_str (fun _ _ => rfl)) pa_nil)) pa_nil))))
      (pss_cons (ps_asg (pe_ix (kixs (K := K) rfl) (pe_ix (kixs (K := K) rfl) (pe_dget (hu_of hr) (pv 1) pe_str (fun _ _ => rfl)) (pv 2) (fun _ _ => rfl)) (pv 5) (fun _ _ => rfl)) (kgtup (K := K) (n := 3) rfl rfl (pgs_cons (pg_name (i := 6) sc__law_holdings.nd rfl (.inl rfl)) (pgs_cons (pg_name (i := 7) sc__law_holdings.nd rfl (.inl rfl)) (pgs_cons (pg_name (i := 8) sc__law_holdings.nd rfl (.inl rfl)) pgs_nil)))))
      (pss_cons (ps_set (i := 9) sc__law_holdings.nd rfl (.inl rfl) (C8.pe_c C__law_draw hr (by omega) rfl (pa_cons (pv 0) (pa_cons pe_int pa_nil))))
      (C8.pss_cut (ps_if (pt_cmpR op_lt (pv 9) pe_int (nomark _)) (pss_cons (ps_set (i := 6) sc__law_holdings.nd rfl (.inl rfl) (C8.pe_c C__law_draw hr (by omega) rfl (pa_cons (pv 0) (pa_cons (pe_callB (klen (K := K) rfl) (by rfl) B.len bt_len (pa_cons (pe_ix (kixs (K := K) rfl) (pe_dget (hu_of hr) (pv 1) pe_str (fun _ _ => rfl)) (pv 5) (fun _ _ => rfl)) pa_nil)) pa_nil))))
      (pss_cons (ps_set (i := 10) sc__law_holdings.nd rfl (.inl rfl) (pe_ix (kixs (K := K) rfl) (pe_lc (own := [("kind", 14), ("fields", 10)]) rfl sc__law_holdings.nd (kpil (K := K) rfl (pe_dget (hu_of hr) (pv 1) pe_str (fun _ _ => rfl))) (blkOk_by (N := ["pool", "scene", "side", "holdings", "turn", "card", "place", "randomness", "numbers", "way", "fields", "issuer", "index", "element", "kind", "name", "size"]) (sc := defScope s__law_holdings) (by decide +kernel))
        (fun _ _ _ _ _ => (kgtup (K := K) (n := 2) rfl rfl (pgs_cons (pg_name (i := 14) sc__law_holdings.nd rfl (.inl rfl)) (pgs_cons (pg_name (i := 10) sc__law_holdings.nd rfl (.inl rfl)) pgs_nil)))) (fun _ _ _ _ _ => pts_one (pt_cmpR op_eq (pv 14) (pe_ix (kixs (K := K) rfl) (pe_ix (kixs (K := K) rfl) (pe_dget (hu_of hr) (pv 1) pe_str (fun _ _ => rfl)) (pv 5) (fun _ _ => rfl)) pe_int (fun _ _ => rfl)) (nomark _)))
        (fun _ _ _ _ _ => (pv 10))) pe_int (fun _ _ => rfl)))
      (pss_one (ps_set (i := 8) sc__law_holdings.nd rfl (.inl rfl) (pe_callTy (ktupF (K := K) rfl) (by rfl) B.tuple bt_tuple (pa_cons (pe_lc (own := [("name", 15), ("size", 16)]) (tt := tYes) rfl sc__law_holdings.nd (kpit (K := K) rfl (pv 10)) (blkOk_by (N := ["pool", "scene", "side", "holdings", "turn", "card", "place", "randomness", "numbers", "way", "fields", "issuer", "index", "element", "kind", "name", "size"]) (sc := defScope s__law_holdings) (by decide +kernel))
        (fun _ _ _ _ _ => (kgtup (K := K) (n := 2) rfl rfl (pgs_cons (pg_name (i := 15) sc__law_holdings.nd rfl (.inl rfl)) (pgs_cons (pg_name (i := 16) sc__law_holdings.nd rfl (.inl rfl)) pgs_nil)))) (fun _ _ _ _ _ => pts_nil)
        (fun _ _ _ _ _ => (C8.pe_c C__law_draw hr (by omega) rfl (pa_cons (pv 0) (pa_cons (pv 16) pa_nil))))) pa_nil)))))) pss_nil)
      (pss_cons (ps_asg (pe_ix (kixs (K := K) rfl) (pe_ix (kixs (K := K) rfl) (pe_dget (hu_of hr) (pv 1) pe_str (fun _ _ => rfl)) (pv 5) (fun _ _ => rfl)) (pv 6) (fun _ _ => rfl)) (kgtup (K := K) (n := 3) rfl rfl (pgs_cons (pg_name (i := 11) sc__law_holdings.nd rfl (.inl rfl)) (pgs_cons (pg_name (i := 12) sc__law_holdings.nd rfl (.inl rfl)) (pgs_cons (pg_name (i := 13) sc__law_holdings.nd rfl (.inl rfl)) pgs_nil)))))
      (C8.pss_cut (ps_if (pt_cmpR op_eq (pv 9) pe_int (nomark _)) (pss_one (ps_set (i := 12) sc__law_holdings.nd rfl (.inl rfl) (pe_op op_add (pv 12) pe_int))) pss_nil)
      (pss_one (ps_expr (pe_bm PySem.F.plainAttrs_list PySem.F.slot_list_append PySem.F.type_list_append mt_append (pv 3) (pa_cons (pe_tupF (pa_cons (pv 11) (pa_cons (pv 12) (pa_cons (pe_ix (kixs (K := K) rfl) (pe_ix (kixs (K := K) rfl) (pe_dget (hu_of hr) (pv 1) pe_str (fun _ _ => rfl)) (pv 5) (fun _ _ => rfl)) pe_int (fun _ _ => rfl)) (pa_cons (pv 7) (pa_cons (pv 8) pa_nil)))))) pa_nil)))))))))))
      (pss_one (ps_ret (pv 3))))),
    fn_run h (fun po => (s_seq (s_setO fun _ => (a_lst a_nil))
      (s_seq (s_for (vs := [4]) (fun _ => (i_ran1 (a_cons (a_call (a_cons a_var (a_cons a_int a_nil))) a_nil))) (fun _ => (g_name (by decide)))
      (s_seq (s_set fun _ => (a_call (a_cons a_var (a_cons (a_b1 u_len (a_pk (a_dget a_var a_str))) a_nil))))
      (s_seq (s_asg (vs := [6, 7, 8]) (fun _ => (a_op pst_pk rok_ix (a_pk (a_op pst_pk rok_ix (a_pk (a_dget a_var a_str)) a_var)) a_var)) (fun _ => (g_tup (g_cons (g_name (by decide)) (g_cons (g_name (by decide)) (g_cons (g_name (by decide)) g_nil tot_name) tot_name) tot_name))))
      (s_seq (s_set fun _ => (a_call (a_cons a_var (a_cons a_int a_nil))))
      (s_cut (s_if (fun _ => (a_test (a_op pst_rv rok_B0 a_var a_int))) (s_seq (s_set fun _ => (a_call (a_cons a_var (a_cons (a_b1 u_len (a_pk (a_op pst_pk rok_ix (a_pk (a_dget a_var a_str)) a_var))) a_nil))))
      (s_seq (s_set fun _ => (a_op pst_pk rok_ix (a_pk (a_fz (a_lc (vs := [14, 10]) (i_list (a_dget a_var a_str)) (g_tup (g_cons (g_name (by decide)) (g_cons (g_name (by decide)) g_nil tot_name) tot_name)) (a_test (a_op pst_rv rok_eq a_var (a_op pst_pk rok_ix (a_pk (a_op pst_pk rok_ix (a_pk (a_dget a_var a_str)) a_var)) a_int))) a_var))) a_int))
      (s_set fun _ => (a_b1 u_tupOf (a_pk (a_fz (a_lc (vs := [15, 16]) (i_tup a_var) (g_tup (g_cons (g_name (by decide)) (g_cons (g_name (by decide)) g_nil tot_name) tot_name)) a_yes (a_call (a_cons a_var (a_cons a_var a_nil)))))))))) s_next)
      (s_seq (s_asg (vs := [11, 12, 13]) (fun _ => (a_op pst_pk rok_ix (a_pk (a_op pst_pk rok_ix (a_pk (a_dget a_var a_str)) a_var)) a_var)) (fun _ => (g_tup (g_cons (g_name (by decide)) (g_cons (g_name (by decide)) (g_cons (g_name (by decide)) g_nil tot_name) tot_name) tot_name))))
      (s_cut (s_if (fun _ => (a_test (a_op pst_rv rok_eq a_var a_int))) (s_set fun _ => (a_op pst_rv rok_I0 a_var a_int)) s_next)
      (s_app fun _ => (a_tup (a_cons a_var (a_cons a_var (a_cons (a_op pst_pk rok_ix (a_pk (a_op pst_pk rok_ix (a_pk (a_dget a_var a_str)) a_var)) a_int) (a_cons a_var (a_cons a_var a_nil))))))))))))))
      (s_fz (i := 3) (s_ret fun _ => a_var))))) (fun ds P a => by obtain ⟨_, _, _, _, rfl, _⟩ := a; exact Nat.le_of_ble_eq_true rfl) ?_⟩)
  rintro ds P ⟨cm, mm, s, side, rfl, ⟨ok, c3, s2⟩, hp⟩
  have lc := ok.lc
  have kl := ks_le ok.kok
  refine seqG fun N hN => ?_
  walk_at "dw"
  subst hN
  refine seqG fun N hN => ?_
  walk_at "dw"
  refine draw (by omega) (by omega) fun turns t0 t8 => ?_
  walk_at "dw"
  have hSt : ∃ W : Nat → List Sl → Prop, ∀ i env, W i env ↔ ∃ (hs : List Hd) (t4 t5 t6 t7 t8 t9 t10 t11 t12 t13 t14 t15 t16 : Sl), env = [Sl.d .pool, Sl.d (scnD s), Sl.d (.int side), Sl.o (hs.map hdD), t4, t5, t6, t7, t8, t9, t10, t11, t12, t13, t14, t15, t16] ∧ hs.length = i ∧ (∀ h ∈ hs, h.vs.length ≤ 4) ∧ ∀ h ∈ hs, PyData.strOk h.nm = true ∧ PyData.strOk h.kn = true ∧ ∀ c ∈ s.cs, h.kn = c.kn → Paired (fun (f : Fld) v => 0 ≤ v ∧ v < f.2) (kfS s.ks c) h.vs := ⟨_, fun _ _ => Iff.rfl⟩
  obtain ⟨W, hW⟩ := hSt
  refine ⟨by omega, by omega, ?_⟩
  refine forA_ran W ((hW _ _).mpr ⟨[], _, _, _, _, _, _, _, _, _, _, _, _, _, rfl, rfl, (fun h m => by cases m), fun h m => by cases m⟩) ?_ ?_
  · intro i env hi w N2 hN2
    obtain ⟨hs, t4, t5, t6, t7, t8, t9, t10, t11, t12, t13, t14, t15, t16, rfl, ln, hl4, hok⟩ := (hW _ _).mp w
    clear w
    refine seqG fun N3 hN3 => ?_
    walk_at "dw"
    rw [sc_cards]
    walk_at "dw"
    rw [List.length_map]
    refine draw (by omega) (by omega) fun cz z0 z1 => ?_
    obtain ⟨k, rfl⟩ := Int.eq_ofNat_of_zero_le z0
    have hk : k < s.cs.length := by omega
    have hc := List.getElem?_eq_getElem hk
    generalize s.cs[k] = c at hc
    have mc := List.mem_of_getElem? hc
    obtain ⟨kf, mk⟩ := (ok.cd c mc).2.1
    have ekf : kfS s.ks c = kf := by unfold kfS; rw [lkK_of ok.kok mk]; rfl
    have k4 := kfS_le ok mc
    obtain ⟨p, r, hpk, hr, pok, ⟨pl, x, hpl, hx⟩, r2, r4, rst⟩ := pks_ok ok side hc
    have prg := pok.rg
    rw [ekf] at prg k4
    walk_at "dw"
    subst hN3
    refine seqG fun N3 hN3 => ?_
    walk_at "dw"
    rw [sc_picks]
    walk_at "dw"
    rw [atD rfl (pks_at s2)]
    walk_at "dw"
    refine oa_at rfl hpk ?_
    rw [show pk3D p = .tup [.int p.row, .int p.rd, .tup (p.vs.map .int)] from rfl]
    walk_at "dw"
    subst hN3
    refine seqG fun N3 hN3 => ?_
    walk_at "dw"
    refine draw (by omega) (by omega) fun way w0 w6 => ?_
    walk_at "dw"
    subst hN3
    rw [hpl]
    refine ⟨fun env => ∃ (q : Nat) (y : Str × Int × Int) (vs : List Int) (t10 t14 t15 t16 : Sl), env = [Sl.d .pool, Sl.d (scnD s), Sl.d (.int side), Sl.o (hs.map hdD), Sl.d (.int (0 + (i : Int))), Sl.d (.int k), Sl.d (.int q), Sl.d (.int p.rd), Sl.d (.tup (vs.map .int)), Sl.d (.int way), t10, t11, t12, t13, t14, t15, t16] ∧ r[q]? = some y ∧ Paired (fun (f : Fld) v => 0 ≤ v ∧ v < f.2) kf vs, ?_, ?_⟩
    · walk_at "dw"
      refine twoD (fun e => ?_) (fun e => ?_)
      · refine seqG fun N3 hN3 => ?_
        walk_at "dw"
        rw [sc_rows]
        walk_at "dw"
        refine oa_at rfl hr ?_
        walk_at "dw"
        rw [List.length_map]
        refine draw (by omega) (by omega) fun qz q0 q1 => ?_
        obtain ⟨q, rfl⟩ := Int.eq_ofNat_of_zero_le q0
        walk_at "dw"
        subst hN3
        refine seqG fun N3 hN3 => ?_
        walk_at "dw"
        rw [sc_kinds]
        walk_at "dw"
        refine ⟨by rw [List.length_map]; omega, ?_⟩
        refine lcA_filL (g := fun z : Kd => Dat.tup (z.2.map fmD)) (fun z => decide (z.1 = c.kn)) (fun z hz Q q1 q2 => ?_) ?_
        · unfold kdT
          walk_at "dw"
          rw [sc_cards]
          walk_at "dw"
          refine oa_at rfl hc ?_
          unfold cdD
          walk_at "dw"
          refine twoD (fun e => q1 (decide_eq_true e)) (fun e => q2 (decide_eq_false e))
        rw [ks_filt ok.kok mk]
        walk_at "dw"
        subst hN3
        walk_at "dw"
        refine ⟨by rw [List.length_map]; omega, ?_⟩
        refine lcA_relL (fun (f : Fld) y => ∃ m, y = Dat.int m ∧ 0 ≤ m ∧ m < f.2) (fun f hf Q hQ => ?_) fun ys pr => ?_
        · have := (ok.kok.fs _ mk).2 f hf
          unfold fmD
          walk_at "dw"
          exact draw (by omega) (by omega) fun v v0 v1 => hQ _ ⟨v, rfl, v0, v1⟩
        obtain ⟨ns, rfl, l, pr⟩ := paired_ints pr
        walk_at "dw"
        exact ⟨q, _, ns, _, _, _, _, rfl, List.getElem?_eq_getElem (by omega), pr⟩
      · exact ⟨pl, x, p.vs, _, _, _, _, rfl, hx, prg⟩
    rintro env' ⟨q, y, vs, t10, t14, t15, t16, rfl, hy, pr⟩
    refine seqG fun N3 hN3 => ?_
    walk_at "dw"
    rw [sc_rows]
    walk_at "dw"
    refine oa_at rfl hr ?_
    walk_at "dw"
    refine oa_at rfl hy ?_
    rw [show rw3D y = .tup [.str y.1, .int y.2.1, .int y.2.2] from rfl]
    walk_at "dw"
    subst hN3
    refine ⟨fun env => ∃ (ix : Int), env = [Sl.d .pool, Sl.d (scnD s), Sl.d (.int side), Sl.o (hs.map hdD), Sl.d (.int (0 + (i : Int))), Sl.d (.int k), Sl.d (.int q), Sl.d (.int p.rd), Sl.d (.tup (vs.map .int)), Sl.d (.int way), t10, Sl.d (.str y.1), Sl.d (.int ix), Sl.d (.int y.2.2), t14, t15, t16], ?_, ?_⟩
    · walk_at "dw"
      refine twoD (fun e => ?_) (fun e => ?_)
      · walk_at "dw"
        exact ⟨_, rfl⟩
      · exact ⟨_, rfl⟩
    rintro env' ⟨ix, rfl⟩
    walk_at "dw"
    refine ⟨by rw [List.length_map]; omega, ?_⟩
    rw [sc_cards]
    walk_at "dw"
    refine oa_at rfl hc ?_
    rw [show cdD c = .tup [.str c.nm, .str c.kn, .tup (c.is.map .str)] from rfl]
    walk_at "dw"
    refine hN2 _ ((hW _ _).mpr ⟨hs ++ [⟨y.1, ix, c.kn, p.rd, vs⟩], _, _, _, _, _, _, _, _, _, _, _, _, _, by rw [List.map_append]; rfl, by rw [List.length_append, ln]; rfl, fun h m => ?_, fun h m => ?_⟩)
    · rcases List.mem_append.mp m with m | m
      · exact hl4 h m
      · cases List.mem_singleton.mp m
        have := prd_len pr
        show vs.length ≤ 4
        omega
    rcases List.mem_append.mp m with m | m
    · exact hok h m
    · cases List.mem_singleton.mp m
      refine ⟨rst y (List.mem_of_getElem? hy), (ok.cd c mc).1.2.1, fun d hd ed => ?_⟩
      rw [← kfS_kn (show c.kn = d.kn from ed), ekf]
      exact pr
  · intro env w
    obtain ⟨hs, t4, t5, t6, t7, t8, t9, t10, t11, t12, t13, t14, t15, t16, rfl, ln, hl4, hok⟩ := (hW _ _).mp w
    show N _
    subst hN
    walk_at "dw"
    exact hp hs ⟨by omega, hl4, hok⟩
end
theorem ext_snoc {c : List Pk3} : ∀ {cs : List (List Pk3)}, ext (cs ++ [c]) = (ext cs).flatMap fun ps => c.map (ps ++ [·])
  | [] => by
    show (c.flatMap fun x => [[]].map (x :: ·)) = [[]].flatMap _
    rw [List.flatMap_cons, List.flatMap_nil, List.append_nil]
    show (c.flatMap fun x => [[x]]) = c.map fun x => [x]
    induction c with
    | nil => rfl
    | cons x c ih =>
      rw [List.flatMap_cons, ih]
      rfl
  | d :: cs => by
    show (d.flatMap fun x => (ext (cs ++ [c])).map (x :: ·)) = (d.flatMap fun x => (ext cs).map (x :: ·)).flatMap _
    rw [ext_snoc, List.flatMap_assoc]
    congr 1
    funext x
    rw [List.map_flatMap, List.flatMap_map]
    congr 1
    funext y
    rw [List.map_map]
    rfl
/-- what is found after i cards -/
def fnd (s : Sc) (hs : List Hd) (i : Nat) : List (List Pk3) := ext ((List.range i).map (candAt s hs))
theorem fnd_succ {s : Sc} {hs : List Hd} {i : Nat} : fnd s hs (i + 1) = (fnd s hs i).flatMap fun ps => (candAt s hs i).map (ps ++ [·]) := by
  unfold fnd
  rw [List.range_succ, List.map_append]
  exact ext_snoc
theorem fm_len {α β : Type} {f : α → List β} {m : Nat} : ∀ {l : List α}, (∀ x ∈ l, (f x).length ≤ m) → (l.flatMap f).length ≤ l.length * m
  | [], _ => Nat.zero_le _
  | x :: l, h => by
    rw [List.flatMap_cons, List.length_append, List.length_cons, Nat.succ_mul]
    have := h x List.mem_cons_self
    have := fm_len (l := l) fun y hy => h y (List.mem_cons_of_mem _ hy)
    omega
theorem candAt_len {s : Sc} {hs : List Hd} (hok : HdsOk s hs) {i : Nat} : (candAt s hs i).length ≤ 10 := by
  unfold candAt
  split
  · exact Nat.le_trans (List.length_filterMap_le _ _) hok.ln
  · exact Nat.zero_le _
theorem fnd_ok {cm mm : Nat} {s : Sc} {hs : List Hd} (ok : ScOk cm mm s) (hok : HdsOk s hs) : ∀ i, i ≤ s.cs.length → (fnd s hs i).length ≤ 10 ^ i ∧ ∀ ps ∈ fnd s hs i, ps.length = i ∧ ∀ (k : Nat) c p, s.cs[k]? = some c → ps[k]? = some p → Paired (fun (f : Fld) v => 0 ≤ v ∧ v < f.2) (kfS s.ks c) p.vs
  | 0, _ => ⟨Nat.le_refl _, fun ps m => by
    obtain rfl := List.mem_singleton.mp (show ps ∈ [[]] from m)
    exact ⟨rfl, fun k c p _ h => by cases h⟩⟩
  | i + 1, hi => by
    obtain ⟨h1, h2⟩ := fnd_ok ok hok i (by omega)
    rw [fnd_succ]
    refine ⟨?_, fun ps m => ?_⟩
    · refine Nat.le_trans (fm_len (m := 10) fun x _ => by rw [List.length_map]; exact candAt_len hok) ?_
      rw [Nat.pow_succ]
      exact Nat.mul_le_mul_right _ h1
    · obtain ⟨qs, hq, m⟩ := List.mem_flatMap.mp m
      obtain ⟨x, hx, rfl⟩ := List.mem_map.mp m
      obtain ⟨g1, g2⟩ := h2 qs hq
      refine ⟨by rw [List.length_append, g1]; rfl, fun k c p e1 e2 => ?_⟩
      by_cases hk : k < qs.length
      · rw [List.getElem?_append_left hk] at e2
        exact g2 k c p e1 e2
      · rw [List.getElem?_append_right (by omega)] at e2
        have := (List.getElem?_eq_some_iff.mp e2).1
        rw [List.length_singleton] at this
        have hk2 : k = i := by omega
        rw [show k - qs.length = 0 by omega] at e2
        cases e2
        rw [hk2] at e1
        obtain ⟨r, hr, e⟩ := candAt_ok ok hok e1
        rw [e] at hx
        obtain ⟨y, hy, ek, rfl⟩ := cand_mem hx
        exact (hok.at_ y hy).2.2 c (List.mem_of_getElem? e1) ek
theorem firstA_fnd {s : Sc} {hs : List Hd} {n : Nat} : firstA s ((List.range n).map (candAt s hs)) [] = (fnd s hs n).find? fun ps => s.co.all (meetB s (lookP ps)) := by
  unfold firstA
  rw [show ((ext (((List.range n).map (candAt s hs)).drop ([] : List Pk3).length)).map (([] : List Pk3) ++ ·)) = fnd s hs n from List.map_id _]
def psD (ps : List Pk3) : Dat := .lst (ps.map pk3D)
def optT (o : Option (List Pk3)) : Dat := match o with
  | some ps => psD ps
  | none => .non
section
variable {P : Program} {w : World} {K : PySem.W.Frag} {mg : Str → Option Value} {base : Heap} {ca : Nat → Addr}
def aspLFirst : ASp := fun ds P => ∃ (cm mm : Nat) (s : Sc) (hs : List Hd), ds = [scnD s, .lst (hs.map hdD)] ∧ (ScOk cm mm s ∧ cm ≤ 3 ∧ mm ≤ 10 ∧ HdsOk s hs) ∧ P (optT (firstA s ((List.range s.cs.length).map (candAt s hs)) []))
theorem ok_law_first {f : Addr} {fd : FuncData} (F : Fun K "_law_first" "_law_first" s__law_first f fd) (B : Blt mg) (C__law_answers : C8.Cal P w K mg base 3 "_law_answers" (toSp K ca aspLAns) []) : FnOk P w K mg base CX0 4 f fd ["scene", "holdings"] (toSp K ca aspLFirst) := by
  refine F.ok sc__law_first (fun vs H Q E h => sp_len (n := 2) (fun ds P a => by obtain ⟨_, _, _, _, rfl, _⟩ := a; rfl) h) (fun cdv A outer s H vs Q E hr h => ⟨_, (pss_cons (ps_set (i := 2) sc__law_first.nd rfl (.inl rfl) (pe_lst (pa_cons (pe_lst pa_nil) pa_nil)))
      (pss_cons (ps_for PassesOwn.never rfl (pi_range1 rfl B.range (pa_cons (pe_callB (klen (K := K) rfl) (by rfl) B.len bt_len (pa_cons (pe_dget (hu_of hr) (pv 0) pe_str (fun _ _ => rfl)) pa_nil)) pa_nil)) (pg_name (i := 3) sc__law_first.nd rfl (.inl rfl))
      (pss_cons (ps_set (i := 4) sc__law_first.nd rfl (.inl rfl) (pe_lst pa_nil))
      (pss_cons (ps_setLc (i := 5) (own := [("row", 12)]) (g := gName 12) (tt := tYes) rfl sc__law_first.nd rfl rfl (sw_true rfl rfl rfl (by decide +kernel)) (kpit (K := K) rfl (pe_ix (kixs (K := K) rfl) (pe_dget (hu_of hr) (pv 0) pe_str (fun _ _ => rfl)) (pv 3) (fun _ _ => rfl))) (blkOk_by (N := ["scene", "holdings", "found", "card", "more", "rows", "picks", "issuer", "index", "kind", "randomness", "numbers", "row"]) (sc := defScope s__law_first) (by decide +kernel))
        (fun _ _ _ _ _ => (pg_name (i := 12) sc__law_first.nd rfl (.inl rfl))) (fun _ _ _ _ _ => pts_nil)
        (fun _ _ _ _ _ => (pe_slice (kslF (K := K) rfl) (pv 12) po_none (po_some pe_int))))
      (pss_cons (ps_for PassesOwn.never rfl (kpil (K := K) rfl (pv 2)) (pg_name (i := 6) sc__law_first.nd rfl (.inl rfl))
      (pss_one (ps_for PassesOwn.never rfl (kpil (K := K) rfl (pv 1)) (kgtup (K := K) (n := 5) rfl rfl (pgs_cons (pg_name (i := 7) sc__law_first.nd rfl (.inl rfl)) (pgs_cons (pg_name (i := 8) sc__law_first.nd rfl (.inl rfl)) (pgs_cons (pg_name (i := 9) sc__law_first.nd rfl (.inl rfl)) (pgs_cons (pg_name (i := 10) sc__law_first.nd rfl (.inl rfl)) (pgs_cons (pg_name (i := 11) sc__law_first.nd rfl (.inl rfl)) pgs_nil))))))
      (pss_one (ps_if (PW.pt (pw_and (pt_cmpR op_eq (pv 9) (pe_ix (kixs (K := K) rfl) (pe_ix (kixs (K := K) rfl) (pe_dget (hu_of hr) (pv 0) pe_str (fun _ _ => rfl)) (pv 3) (fun _ _ => rfl)) pe_int (fun _ _ => rfl)) (nomark _)) (pw_and1 (pt_cmpR (op_inL hr (by omega)) (pe_tupF (pa_cons (pv 7) (pa_cons (pv 8) pa_nil))) (pv 5) rfl)))) (pss_one (ps_expr (pe_bm PySem.F.plainAttrs_list PySem.F.slot_list_append PySem.F.type_list_append mt_append (pv 4) (pa_cons (pe_op op_cat (pv 6) (pe_lst (pa_cons (pe_tupF (pa_cons (kbm (K := K) rfl PySem.F.plainAttrs_list PySem.F.slot_list_index PySem.F.type_list_index (kindexD (K := K) rfl hr) (pv 5) (pa_cons (pe_tupF (pa_cons (pv 7) (pa_cons (pv 8) pa_nil))) pa_nil)) (pa_cons (pv 10) (pa_cons (pv 11) pa_nil)))) pa_nil))) pa_nil)))) pss_nil)))))
      (pss_one (ps_set (i := 2) sc__law_first.nd rfl (.inl rfl) (pv 4)))))))
      (pss_cons (ps_for PassesOwn.never rfl (kpil (K := K) rfl (pv 2)) (pg_name (i := 6) sc__law_first.nd rfl (.inl rfl))
      (pss_one (ps_if (pt_val (C8.pe_c C__law_answers hr (by omega) rfl (pa_cons (pv 0) (pa_cons (pv 6) pa_nil)))) (pss_one (ps_ret (pv 6))) pss_nil)))
      (pss_one (ps_ret pe_non))))),
    fn_run h (fun po => (s_seq (s_set fun _ => (a_fz (a_lst (a_cons (a_fz (a_lst a_nil)) a_nil))))
      (s_seq (s_for (vs := [3]) (fun _ => (i_ran1 (a_cons (a_b1 u_len (a_pk (a_dget a_var a_str))) a_nil))) (fun _ => (g_name (by decide)))
      (s_seq (s_setO fun _ => (a_lst a_nil))
      (s_seq (s_set fun _ => (a_fz (a_lc (vs := [12]) (i_tup (a_op pst_pk rok_ix (a_pk (a_dget a_var a_str)) a_var)) (g_name (by decide)) a_yes (a_slT a_var ao_none (ao_some a_int)))))
      (s_seq (s_for (vs := [6]) (fun _ => (i_list a_var)) (fun _ => (g_name (by decide)))
      (s_for (vs := [7, 8, 9, 10, 11]) (fun _ => (i_list a_var)) (fun _ => (g_tup (g_cons (g_name (by decide)) (g_cons (g_name (by decide)) (g_cons (g_name (by decide)) (g_cons (g_name (by decide)) (g_cons (g_name (by decide)) g_nil tot_name) tot_name) tot_name) tot_name) tot_name)))
      (s_if (fun _ => (a_and (a_test (a_op pst_rv rok_eq a_var (a_op pst_pk rok_ix (a_pk (a_op pst_pk rok_ix (a_pk (a_dget a_var a_str)) a_var)) a_int))) (a_test (a_op pst_rv rok_inS (a_tup (a_cons a_var (a_cons a_var a_nil))) (a_pk a_var))))) (s_app fun _ => (a_fz (a_opF pst_pk rok_catL (a_pk a_var) (a_pk (a_fz (a_lst (a_cons (a_tup (a_cons (a_indexD (a_pk a_var) (a_tup (a_cons a_var (a_cons a_var a_nil)))) (a_cons a_var (a_cons a_var a_nil)))) a_nil))))))) s_next)))
      (s_fz (i := 4) (s_set fun _ => a_var))))))
      (s_seq (s_for (vs := [6]) (fun _ => (i_list a_var)) (fun _ => (g_name (by decide)))
      (s_if (fun _ => (a_tb (a_call (a_cons a_var (a_cons a_var a_nil))))) (s_ret fun _ => a_var) s_next))
      (s_ret fun _ => a_non))))) (fun ds P a => by obtain ⟨_, _, _, _, rfl, _⟩ := a; exact Nat.le_of_ble_eq_true rfl) ?_⟩)
  rintro ds P ⟨cm, mm, s, hs, rfl, ⟨ok, c3, m10, hok⟩, hp⟩
  have lc := ok.lc
  refine seqG fun N hN => ?_
  walk_at "dw"
  subst hN
  refine seqG fun N hN => ?_
  walk_at "dw"
  rw [sc_cards]
  walk_at "dw"
  rw [List.length_map]
  refine ⟨by omega, by omega, ?_⟩
  rw [Int.toNat_natCast]
  have hSt : ∃ W : Nat → List Sl → Prop, ∀ i env, W i env ↔ ∃ (t3 t4 t5 t6 t7 t8 t9 t10 t11 t12 : Sl), env = [Sl.d (scnD s), Sl.d (.lst (hs.map hdD)), Sl.d (.lst ((fnd s hs i).map psD)), t3, t4, t5, t6, t7, t8, t9, t10, t11, t12] := ⟨_, fun _ _ => Iff.rfl⟩
  obtain ⟨W, hW⟩ := hSt
  refine forA_ran W ((hW _ _).mpr ⟨_, _, _, _, _, _, _, _, _, _, rfl⟩) ?_ ?_
  · intro i env hi w N2 hN2
    obtain ⟨t3, t4, t5, t6, t7, t8, t9, t10, t11, t12, rfl⟩ := (hW _ _).mp w
    clear w
    have hc := List.getElem?_eq_getElem hi
    generalize s.cs[i] = c at hc
    obtain ⟨r, hr, eca⟩ := candAt_ok ok hok hc
    obtain ⟨lr4, rst⟩ := rows_str ok hr
    obtain ⟨fl, fp⟩ := fnd_ok ok hok i (by omega)
    have fl2 : (fnd s hs i).length ≤ 100 := by
      refine Nat.le_trans fl ?_
      have : i ≤ 2 := by omega
      rcases i with _ | _ | _ | i
      · decide
      · decide
      · decide
      · omega
    have lh := hok.ln
    have go : ∀ t4 t5 t6 t7 t8 t9 t10 t11 t12 : Sl, N2 [Sl.d (scnD s), Sl.d (.lst (hs.map hdD)), Sl.d (.lst ((fnd s hs (i + 1)).map psD)), Sl.d (.int (0 + (i : Int))), t4, t5, t6, t7, t8, t9, t10, t11, t12] := fun t4 t5 t6 t7 t8 t9 t10 t11 t12 => hN2 _ ((hW _ _).mpr ⟨_, _, _, _, _, _, _, _, _, _, rfl⟩)
    clear hN2 hW W
    refine seqG fun N3 hN3 => ?_
    walk_at "dw"
    subst hN3
    refine seqG fun N3 hN3 => ?_
    walk_at "dw"
    rw [sc_rows]
    walk_at "dw"
    refine oa_at (Int.zero_add _) hr ?_
    walk_at "dw"
    refine ⟨by rw [List.length_map]; omega, ?_⟩
    refine lcA_mapL (g := fun x : Str × Int × Int => prD (pairOf x)) (fun x hx Q hQ => ?_) ?_
    · unfold rw3D
      walk_at "dw"
      exact hQ
    rw [show (r.map fun x => prD (pairOf x)) = (r.map pairOf).map prD by rw [List.map_map]; rfl]
    walk_at "dw"
    subst hN3
    refine seqG fun N3 hN3 => ?_
    walk_at "dw"
    have e4 : ∀ y ∈ (r.map pairOf).map prD, okE 63 y := fun y hy => by
      obtain ⟨z, hz, rfl⟩ := List.mem_map.mp hy
      exact okE_pr (rst z hz)
    have hSt : ∃ W : List (List Pk3) → List Sl → Prop, ∀ xs env, W xs env ↔ ∃ (dn : List (List Pk3)) (t6 t7 t8 t9 t10 t11 t12 : Sl), env = [Sl.d (scnD s), Sl.d (.lst (hs.map hdD)), Sl.d (.lst ((fnd s hs i).map psD)), Sl.d (.int (0 + (i : Int))), Sl.o ((dn.flatMap fun ps => (cand c.kn r hs).map (ps ++ [·])).map psD), Sl.d (.lst ((r.map pairOf).map prD)), t6, t7, t8, t9, t10, t11, t12] ∧ dn ++ xs = fnd s hs i := ⟨_, fun _ _ => Iff.rfl⟩
    obtain ⟨W, hW⟩ := hSt
    refine forA_suf (f := psD) W ?_ ?_ (fnd s hs i) _ ((hW _ _).mpr ⟨[], _, _, _, _, _, _, _, rfl, rfl⟩)
    · intro ps xs env w N4 hN4
      obtain ⟨dn, t6, t7, t8, t9, t10, t11, t12, rfl, edn⟩ := (hW _ _).mp w
      clear w
      have mps : ps ∈ fnd s hs i := by rw [← edn]; exact List.mem_append.mpr (.inr List.mem_cons_self)
      have lps := (fp ps mps).1
      have ldn : dn.length ≤ 100 := by
        have := congrArg List.length edn
        rw [List.length_append] at this
        omega
      have ld2 : (dn.flatMap fun ps => (cand c.kn r hs).map (ps ++ [·])).length ≤ dn.length * 10 := fm_len fun x _ => by
        rw [List.length_map]
        exact Nat.le_trans (List.length_filterMap_le _ _) lh
      have hN5 : ∀ t7 t8 t9 t10 t11 t12 : Sl, N4 [Sl.d (scnD s), Sl.d (.lst (hs.map hdD)), Sl.d (.lst ((fnd s hs i).map psD)), Sl.d (.int (0 + (i : Int))), Sl.o (((dn.flatMap fun ps => (cand c.kn r hs).map (ps ++ [·])) ++ (cand c.kn r hs).map (ps ++ [·])).map psD), Sl.d (.lst ((r.map pairOf).map prD)), Sl.d (psD ps), t7, t8, t9, t10, t11, t12] := fun t7 t8 t9 t10 t11 t12 => hN4 _ ((hW _ _).mpr ⟨dn ++ [ps], _, _, _, _, _, _, _, by rw [List.flatMap_append, List.flatMap_singleton], by rw [List.append_assoc]; exact edn⟩)
      clear hN4 hW W
      generalize (dn.flatMap fun ps => (cand c.kn r hs).map (ps ++ [·])) = D at ld2 hN5
      walk_at "dw"
      have hSt : ∃ W : List Hd → List Sl → Prop, ∀ xs env, W xs env ↔ ∃ (dh : List Hd) (t7 t8 t9 t10 t11 t12 : Sl), env = [Sl.d (scnD s), Sl.d (.lst (hs.map hdD)), Sl.d (.lst ((fnd s hs i).map psD)), Sl.d (.int (0 + (i : Int))), Sl.o ((D ++ (cand c.kn r dh).map (ps ++ [·])).map psD), Sl.d (.lst ((r.map pairOf).map prD)), Sl.d (psD ps), t7, t8, t9, t10, t11, t12] ∧ dh ++ xs = hs := ⟨_, fun _ _ => Iff.rfl⟩
      obtain ⟨W, hW⟩ := hSt
      refine forA_suf (f := hdD) W ?_ ?_ hs _ ((hW _ _).mpr ⟨[], _, _, _, _, _, _, (by rw [show (cand c.kn r []) = [] from rfl, List.map_nil, List.append_nil]), rfl⟩)
      · intro h xs env w N6 hN6
        obtain ⟨dh, t7, t8, t9, t10, t11, t12, rfl, edh⟩ := (hW _ _).mp w
        clear w
        have mh : h ∈ hs := by rw [← edh]; exact List.mem_append.mpr (.inr List.mem_cons_self)
        obtain ⟨h1, h2, _⟩ := hok.at_ h mh
        have ldh : (cand c.kn r dh).length ≤ 10 := by
          have e1 := List.length_filterMap_le (candF c.kn r) dh
          have e2 := congrArg List.length edh
          rw [List.length_append] at e2
          show (dh.filterMap (candF c.kn r)).length ≤ 10
          omega
        have ec : cand c.kn r (dh ++ [h]) = cand c.kn r dh ++ (candF c.kn r h).toList := by
          unfold cand
          rw [List.filterMap_append]
          congr 1
        have go2 : ∀ (t7 t8 t9 t10 t11 t12 : Sl), N6 [Sl.d (scnD s), Sl.d (.lst (hs.map hdD)), Sl.d (.lst ((fnd s hs i).map psD)), Sl.d (.int (0 + (i : Int))), Sl.o ((D ++ (cand c.kn r (dh ++ [h])).map (ps ++ [·])).map psD), Sl.d (.lst ((r.map pairOf).map prD)), Sl.d (psD ps), t7, t8, t9, t10, t11, t12] := fun t7 t8 t9 t10 t11 t12 => hN6 _ ((hW _ _).mpr ⟨dh ++ [h], _, _, _, _, _, _, rfl, by rw [List.append_assoc]; exact edh⟩)
        rw [ec] at go2
        clear hN6 hW W
        rw [show hdD h = .tup [.str h.nm, .int h.ix, .str h.kn, .int h.r, .tup (h.vs.map .int)] from rfl]
        walk_at "dw"
        rw [sc_cards]
        walk_at "dw"
        refine oa_at (Int.zero_add _) hc ?_
        rw [show cdD c = .tup [.str c.nm, .str c.kn, .tup (c.is.map .str)] from rfl]
        walk_at "dw"
        have stay : candF c.kn r h = none → ∀ t7 t8 t9 t10 t11 t12 : Sl, N6 [Sl.d (scnD s), Sl.d (.lst (hs.map hdD)), Sl.d (.lst ((fnd s hs i).map psD)), Sl.d (.int (0 + (i : Int))), Sl.o ((D ++ (cand c.kn r dh).map (ps ++ [·])).map psD), Sl.d (.lst ((r.map pairOf).map prD)), Sl.d (psD ps), t7, t8, t9, t10, t11, t12] := fun e t7 t8 t9 t10 t11 t12 => by
          have := go2 t7 t8 t9 t10 t11 t12
          rw [e, show (none : Option Pk3).toList = [] from rfl, List.append_nil] at this
          exact this
        refine twoD (fun ek => ?_) (fun ek => stay (by unfold candF; rw [if_neg fun z => ek z.1]) _ _ _ _ _ _)
        have okp : okE 63 (prD (h.nm, h.ix)) := okE_pr h1
        refine ⟨fun y hy => ⟨(e4 y hy).up (by omega), okp.up (by omega)⟩, fun b hb => ?_⟩
        have hb2 : b = true ↔ (h.nm, h.ix) ∈ r.map pairOf := by
          rw [hb]
          constructor
          · intro m
            obtain ⟨z, hz, e⟩ := List.mem_map.mp m
            have := prD_inj (x := z) (y := (h.nm, h.ix)) e
            rw [← this]
            exact hz
          · exact fun m => List.mem_map.mpr ⟨_, m, rfl⟩
        cases b with
        | false =>
          walk_at "dw"
          exact stay (by unfold candF; rw [if_neg fun z => absurd (hb2.mpr z.2) (by decide)]) _ _ _ _ _ _
        | true =>
          have mm := hb2.mp rfl
          have ef : candF c.kn r h = some ⟨plcI r h, h.r, h.vs⟩ := by unfold candF; rw [if_pos ⟨ek, mm⟩]
          rw [ef] at go2
          walk_at "dw"
          refine ⟨by rw [List.length_map, List.length_append, List.length_map]; omega, ?_⟩
          unfold aIndexD
          walk_at "dw"
          obtain ⟨y, g1, g2, g3⟩ := find_at (p := fun y => decide (y = (h.nm, h.ix))) (xs := r.map pairOf) ⟨_, mm, decide_eq_true rfl⟩
          refine ⟨okp, e4, plcI r h, ?_, fun m hm hx => ?_, ?_⟩
          · rw [List.getElem?_map, show (r.map pairOf)[plcI r h]? = some y from g1, Option.map_some, of_decide_eq_true g2]
            rfl
          · rw [List.getElem?_map] at hx
            cases q : (r.map pairOf)[m]? with
            | none =>
              rw [q] at hx
              cases hx
            | some z =>
              rw [q] at hx
              exact absurd (prD_inj (x := z) (y := (h.nm, h.ix)) (Option.some.inj hx)) (of_decide_eq_false (g3 m hm z q))
          have := go2 (Sl.d (.str h.nm)) (Sl.d (.int h.ix)) (Sl.d (.str h.kn)) (Sl.d (.int h.r)) (Sl.d (.tup (h.vs.map .int))) t12
          have e : (D ++ (cand c.kn r dh ++ (some (⟨plcI r h, h.r, h.vs⟩ : Pk3)).toList).map (ps ++ [·])).map psD = (D ++ (cand c.kn r dh).map (ps ++ [·])).map psD ++ [.lst (ps.map pk3D ++ [pk3D ⟨plcI r h, h.r, h.vs⟩])] := by
            rw [List.map_append (l₁ := cand c.kn r dh), ← List.append_assoc, List.map_append (l₂ := List.map _ _)]
            show _ ++ [Dat.lst ((ps ++ [(⟨plcI r h, h.r, h.vs⟩ : Pk3)]).map pk3D)] = _
            rw [List.map_append (l₁ := ps), List.map_append (l₁ := D)]
            rfl
          rw [e] at this
          refine (show (kCatL (.lst (ps.map pk3D)) (.lst [pk3D ⟨plcI r h, h.r, h.vs⟩]) _ : Prop) from ?_)
          rw [kCatL_l]
          exact ⟨by rw [List.length_map, lps, List.length_singleton]; omega, this⟩
      · intro env w
        obtain ⟨dh, t7, t8, t9, t10, t11, t12, rfl, edh⟩ := (hW _ _).mp w
        rw [List.append_nil] at edh
        subst edh
        exact hN5 _ _ _ _ _ _
    · intro env w
      obtain ⟨dn, t6, t7, t8, t9, t10, t11, t12, rfl, edn⟩ := (hW _ _).mp w
      rw [List.append_nil] at edn
      show N3 _
      subst hN3
      walk_at "dw"
      rw [fnd_succ, eca, ← edn] at go
      subst edn
      exact go _ _ _ _ _ _ _ _ _
  · intro env w
    obtain ⟨t3, t4, t5, t6, t7, t8, t9, t10, t11, t12, rfl⟩ := (hW _ _).mp w
    show N _
    clear w hW W
    subst hN
    refine seqG fun N hN => ?_
    walk_at "dw"
    rw [firstA_fnd] at hp
    obtain ⟨fl, fp⟩ := fnd_ok ok hok s.cs.length (Nat.le_refl _)
    have hSt : ∃ W : List (List Pk3) → List Sl → Prop, ∀ xs env, W xs env ↔ ∃ (dn : List (List Pk3)) (t3 t4 t5 t6 t7 t8 t9 t10 t11 t12 : Sl), env = [Sl.d (scnD s), Sl.d (.lst (hs.map hdD)), Sl.d (.lst ((fnd s hs s.cs.length).map psD)), t3, t4, t5, t6, t7, t8, t9, t10, t11, t12] ∧ dn ++ xs = fnd s hs s.cs.length ∧ ∀ x ∈ dn, s.co.all (meetB s (lookP x)) ≠ true := ⟨_, fun _ _ => Iff.rfl⟩
    obtain ⟨W, hW⟩ := hSt
    refine forA_suf (f := psD) W ?_ ?_ (fnd s hs s.cs.length) _ ((hW _ _).mpr ⟨[], _, _, _, _, _, _, _, _, _, _, rfl, rfl, fun x h => (by cases h)⟩)
    · intro x xs env w N2 hN2
      obtain ⟨dn, t3, t4, t5, t6, t7, t8, t9, t10, t11, t12, rfl, edn, hdn⟩ := (hW _ _).mp w
      clear w
      have mx : x ∈ fnd s hs s.cs.length := by rw [← edn]; exact List.mem_append.mpr (.inr List.mem_cons_self)
      walk_at "dw"
      refine ⟨cm, mm, s, x, rfl, ⟨ok, c3, m10, (fp x mx).1, (fp x mx).2⟩, ?_⟩
      walk_at "dw"
      cases hb : s.co.all (meetB s (lookP x)) with
      | true =>
        walk_at "dw"
        rw [← edn, List.find?_append, List.find?_eq_none.mpr hdn, Option.none_or, List.find?_cons, hb] at hp
        exact hp
      | false =>
        walk_at "dw"
        refine hN2 _ ((hW _ _).mpr ⟨dn ++ [x], _, _, _, _, _, _, _, _, _, _, rfl, by rw [List.append_assoc]; exact edn, fun y hy => ?_⟩)
        rcases List.mem_append.mp hy with hy | hy
        · exact hdn y hy
        · obtain rfl := List.mem_singleton.mp hy
          rw [hb]
          decide
    · intro env w
      obtain ⟨dn, t3, t4, t5, t6, t7, t8, t9, t10, t11, t12, rfl, edn, hdn⟩ := (hW _ _).mp w
      rw [List.append_nil] at edn
      subst edn
      show N _
      subst hN
      walk_at "dw"
      rw [List.find?_eq_none.mpr hdn] at hp
      exact hp
end
abbrev s__law_pool : Stmt := top 35
theorem sc__law_pool : FnScope ["script", "budget"] ["script", "budget"] (defScope s__law_pool) := ⟨rfl, rfl, rfl, by decide +kernel, rfl, by decide +kernel, by decide +kernel⟩
section
variable {P : Program} {w : World} {K : PySem.W.Frag} {mg : Str → Option Value} {base : Heap}
def spPool (K : PySem.W.Frag) : Sp := fun vs H Q _ => ∃ (a : Addr) (ns : List Int) (z : Int), vs = [.ref a, .int z] ∧ SqL K H a (ns.map V.int) ∧
  ∀ p c H', Same H H' → H p = none → PoolAt H' p c → Q (.ref p) H'
theorem ok_law_pool {f : Addr} {fd : FuncData} (F : Fun K "_law_pool" "_law_pool" s__law_pool f fd) (B : Blt mg) : FnOk P w K mg base CX0 1 f fd ["script", "budget"] (spPool K) := by
  refine F.ok sc__law_pool (fun vs H Q E h => ?_) (fun cdv A outer s H vs Q E hr h => ?_)
  · obtain ⟨a, ns, z, rfl, _⟩ := h
    rfl
  · obtain ⟨a, ns, z, rfl, hS, q⟩ := h
    refine ⟨_, (pss_one (ps_ret (pe_lst (pa_cons (pe_callTy (klist (K := K) rfl) (by rfl) B.list bt_list (pa_cons (pv 0) pa_nil)) (pa_cons pe_int (pa_cons pe_int (pa_cons pe_int (pa_cons pe_int (pa_cons (pv 1) pa_nil))))))))), ?_⟩
    walk_at "go"
    intro c hc
    walk_at "go"
    intro p hp
    have s1 := same_new (o := .lst (ns.map V.int)) hc
    refine q p c _ (s1.trans (same_new hp)) (s1.free hp) ⟨ns, 0, 0, 1, 0, z, upd_same, ?_, by omega, by omega, by omega⟩
    rw [upd_ne (ne_of_none upd_same hp), upd_same]
end
def spLaw (K : PySem.W.Frag) : Sp := fun vs H Q _ => ∃ (a : Addr) (ns : List Int), vs = [.ref a] ∧ SqL K H a (ns.map V.int) ∧ ∀ H', Q (.bl true) H'
theorem law_runB {K : PySem.W.Frag} {ca : Nat → Addr} {a p c : Addr} {n : Nat} {H1 : Hp} {Q : VK} {ts : TS} {E : XS} {bs : BSt} (hs : ∀ po, BStm ⟨K, ca, po⟩ E ts bs) (hP : PoolAt H1 p c) (z : ∀ H', Q (.bl true) H')
    (hb : bs { nx := fun _ _ => False, rt := fun d _ => d = .bl true } (.u :: .d .pool :: List.replicate n .u) (fun _ => none)) : ts { nx := fun _ H' => Q .non H', rt := Q } (some (.ref a) :: some (.ref p) :: List.replicate n none) H1 := by
  have ok : Okk ⟨K, ca, some (p, c)⟩ (fun _ => False) H1 := ⟨fun _ f => f.elim, fun p' c' e => by
    cases e
    exact ⟨hP, fun f => f, fun f => f⟩⟩
  have rep : ∀ (i : Nat) (s : Sl), (List.replicate n Sl.u)[i]? = some s → s = .u ∧ i < n := fun i s e => by
    obtain ⟨hb, e⟩ := List.getElem?_eq_some_iff.mp e
    rw [List.getElem_replicate] at e
    rw [List.length_replicate] at hb
    exact ⟨e.symm, hb⟩
  have m : Mt ⟨K, ca, some (p, c)⟩ H1 (fun _ => False) H1 (some (.ref a) :: some (.ref p) :: List.replicate n none) (.u :: .d .pool :: List.replicate n .u) := by
    refine ⟨by simp, fun i s e => ?_, fun i j xs ys b e => ?_⟩
    · match i with
      | 0 => cases e; exact ⟨_, rfl, trivial⟩
      | 1 => cases e; exact ⟨_, rfl, _, rfl, .pool rfl⟩
      | i + 2 =>
        obtain ⟨rfl, hi⟩ := rep i s e
        refine ⟨none, ?_, trivial⟩
        show (List.replicate n (none : Option V))[i]? = _
        rw [List.getElem?_eq_getElem (by rw [List.length_replicate]; exact hi), List.getElem_replicate]
    · match i with
      | 0 => cases e
      | 1 => cases e
      | i + 2 =>
        have := (rep i _ e).1
        cases this
  have st : SoOk ⟨K, ca, some (p, c)⟩ (fun _ => False) H1 (fun _ => none) := ⟨ok, fun _ _ e => by cases e⟩
  have m2 : Mt2 ⟨K, ca, some (p, c)⟩ H1 (fun _ => False) H1 (fun _ => none) (some (.ref a) :: some (.ref p) :: List.replicate n none) (.u :: .d .pool :: List.replicate n .u) := m
  exact (hs (some (p, c))).run _ H1 _ _ H1 _ { nx := fun _ _ => False, rt := fun d _ => d = .bl true } _ _ _ H1 _ ⟨⟨.refl st, Sub.refl _ _⟩, m2⟩
    ⟨fun σ env F' H' M' b m p => p.elim, fun v d F' H' M' b r e => by
      subst e
      cases r
      exact z H', fun _ _ _ _ _ _ _ p => p.elim, fun _ _ _ _ _ _ _ p => p.elim, fun _ _ _ _ _ _ _ => .zero⟩ hb
theorem law_startB {K : PySem.W.Frag} {ca : Nat → Addr} {a : Addr} {ns : List Int} {x y : Str} {N : List Str} {b : Int} {E' : XK} {H : Hp} {Q : VK} {ts : TS} {E : XS} {bs : BSt} (hS : SqL K H a (ns.map V.int)) (z : ∀ H', Q (.bl true) H') (hs : ∀ po, BStm ⟨K, ca, po⟩ E ts bs)
    (hb : bs { nx := fun _ _ => False, rt := fun d _ => d = .bl true } (.u :: .d .pool :: List.replicate N.length .u) (fun _ => none)) :
    tSeq (tAsg (tCall (spPool K) [] E' (tCons (tVar 0) (tCons (tC (.int b)) tNil))) (gName 1)) ts { nx := fun _ H' => Q .non H', rt := Q } (L2.start (x :: y :: N) [.ref a]) H :=
  ⟨_, rfl, a, ns, _, rfl, hS, fun p c H1 s1 n1 hP => law_runB hs hP z hb⟩
abbrev s_law : Stmt := top 56
theorem sc_law : FnScope ["script", "pool", "scene", "group", "side", "wallet", "holdings", "issuer", "index", "kind", "randomness", "numbers", "actual", "due", "told", "pick"] ["script"] (defScope s_law) := ⟨rfl, rfl, rfl, by decide +kernel, rfl, by decide +kernel, by decide +kernel⟩
theorem pl_hd (h : Hd) : plD (hdD h) = true := by
  show (true && (true && (true && (true && (plD (.tup (h.vs.map .int)) && true))))) = true
  rw [show plD (.tup (h.vs.map Dat.int)) = true from plAll_map fun _ _ => rfl]
  rfl
theorem okS_hd {n : Nat} {h : Hd} (l : h.vs.length ≤ 1000) : okS (n + 2) (hdD h) := okS_tup (Nat.le_of_ble_eq_true rfl) (fun d hd => by
  simp only [List.mem_cons, List.mem_nil_iff, or_false] at hd
  rcases hd with rfl | rfl | rfl | rfl | rfl
  · exact okS_str _ _
  · exact okS_int _ _
  · exact okS_str _ _
  · exact okS_int _ _
  · exact okS_tup (by rw [List.length_map]; omega) (okS_map fun x _ => okS_int _ _))
theorem pl_pk (x : Pk3) : plD (pk3D x) = true := by
  show (true && (true && (plD (.tup (x.vs.map .int)) && true))) = true
  rw [show plD (.tup (x.vs.map Dat.int)) = true from plAll_map fun _ _ => rfl]
  rfl
theorem okS_pk {n : Nat} {x : Pk3} (l : x.vs.length ≤ 1000) : okS (n + 2) (pk3D x) := okS_tup (Nat.le_of_ble_eq_true rfl) (fun d hd => by
  simp only [List.mem_cons, List.mem_nil_iff, or_false] at hd
  rcases hd with rfl | rfl | rfl
  · exact okS_int _ _
  · exact okS_int _ _
  · exact okS_tup (by rw [List.length_map]; omega) (okS_map fun x _ => okS_int _ _))
section
variable {P : Program} {w : World} {K : PySem.W.Frag} {mg : Str → Option Value} {base : Heap} {ca : Nat → Addr}
theorem ok_law {f : Addr} {fd : FuncData} (F : Fun K "law" "law" s_law f fd) (B : Blt mg) (T0 : GT K (ca 0)) (T6 : WlT K (ca 6)) (T7 : PkT K (ca 7)) (C__law_pool : C8.Cal P w K mg base 1 "_law_pool" (spPool K) [])
    (C__law_draw : C8.Cal P w K mg base 1 "_law_draw" (toSp K ca aspDraw) []) (C__law_scene : C8.Cal P w K mg base 9 "_law_scene" (toSp K ca aspLScene) []) (C__law_holdings : C8.Cal P w K mg base 2 "_law_holdings" (toSp K ca aspLHold) [])
    (C__law_same : C8.Cal P w K mg base 14 "_law_same" (toSp K ca (aspSame 14)) []) (C__law_question : C8.Cal P w K mg base 6 "_law_question" (toSp K ca aspLQu) []) (C__law_first : C8.Cal P w K mg base 4 "_law_first" (toSp K ca aspLFirst) [])
    (M_keep : C8.Met P w K mg base 1 (ca 6) "keep" (toSp2 K ca bspKeep) []) (M_picks : C8.Met P w K mg base 10 (ca 6) "picks" (toSp K ca aspPicks) []) (MX_Wallet : MakX P w K mg base 1 "Wallet" (ca 6) (toSpI2 K ca 6 bspWalI))
    (K_Group : C8.Mak P w K mg base 4 "Group" (ca 0) (toSpI K ca 0 aspGroupI) []) : FnOk P w K mg base CX0 15 f fd ["script"] (spLaw K) := by
  refine F.ok sc_law (fun vs H Q E h => ?_) (fun cdv A outer s H vs Q E hr h => ?_)
  · obtain ⟨a, ns, rfl, _⟩ := h
    rfl
  obtain ⟨a, ns, rfl, hS, z⟩ := h
  refine ⟨_, (pss_cons (ps_set (i := 1) sc_law.nd rfl (.inl rfl) (C8.pe_c C__law_pool hr (by omega) rfl (pa_cons (pv 0) (pa_cons pe_int pa_nil))))
      (pss_cons (ps_set (i := 2) sc_law.nd rfl (.inl rfl) (C8.pe_c C__law_scene hr (by omega) rfl (pa_cons (pv 1) (pa_cons pe_int (pa_cons pe_int pa_nil)))))
      (pss_cons (ps_set (i := 3) sc_law.nd rfl (.inl rfl) (pe_dget (hu_of hr) (pv 2) pe_str (fun _ _ => rfl)))
      (pss_cons (ps_set (i := 4) sc_law.nd rfl (.inl rfl) (C8.pe_c C__law_draw hr (by omega) rfl (pa_cons (pv 1) (pa_cons pe_int pa_nil))))
      (pss_cons (ps_set (i := 5) sc_law.nd rfl (.inl rfl) (by exact (pe_mkX MX_Wallet takes0 hr (by omega) rfl (pa_cons (C8.pe_mk K_Group hr (by omega) rfl (pa_cons (pe_ix (kixs (K := K) rfl) (pv 3) pe_int (fun _ _ => rfl)) (pa_cons (pe_ix (kixs (K := K) rfl) (pv 3) pe_int (fun _ _ => rfl)) (pa_cons (pe_ix (kixs (K := K) rfl) (pv 3) pe_int (fun _ _ => rfl)) pa_nil)))) (pa_cons (pe_ix (kixs (K := K) rfl) (pe_dget (hu_of hr) (pv 2) pe_str (fun _ _ => rfl)) (pv 4) (fun _ _ => rfl)) pa_nil)))))
      (pss_cons (ps_set (i := 6) sc_law.nd rfl (.inl rfl) (C8.pe_c C__law_holdings hr (by omega) rfl (pa_cons (pv 1) (pa_cons (pv 2) (pa_cons (pv 4) pa_nil)))))
      (pss_cons (ps_for PassesOwn.never rfl (kpil (K := K) rfl (pv 6)) (kgtup (K := K) (n := 5) rfl rfl (pgs_cons (pg_name (i := 7) sc_law.nd rfl (.inl rfl)) (pgs_cons (pg_name (i := 8) sc_law.nd rfl (.inl rfl)) (pgs_cons (pg_name (i := 9) sc_law.nd rfl (.inl rfl)) (pgs_cons (pg_name (i := 10) sc_law.nd rfl (.inl rfl)) (pgs_cons (pg_name (i := 11) sc_law.nd rfl (.inl rfl)) pgs_nil))))))
      (pss_one (ps_expr (C8.pe_mt M_keep hr (by omega) (pv 5) (pa_cons (pv 7) (pa_cons (pv 8) (pa_cons (pv 9) (pa_cons (pv 10) (pa_cons (pe_callTy (klist (K := K) rfl) (by rfl) B.list bt_list (pa_cons (pv 11) pa_nil)) pa_nil)))))))))
      (pss_cons (ps_if (pt_not (pt_val (C8.pe_c C__law_same hr (by omega) rfl (pa_cons (kfld (K := K) rfl (pv 5)) (pa_cons (pv 6) pa_nil))))) (pss_one (ps_ret pe_bl)) pss_nil)
      (pss_cons (ps_set (i := 12) sc_law.nd rfl (.inl rfl) (C8.pe_mt M_picks hr (by omega) (pv 5) (pa_cons (C8.pe_c C__law_question hr (by omega) rfl (pa_cons (pv 2) pa_nil)) pa_nil)))
      (pss_cons (ps_set (i := 13) sc_law.nd rfl (.inl rfl) (C8.pe_c C__law_first hr (by omega) rfl (pa_cons (pv 2) (pa_cons (pv 6) pa_nil))))
      (pss_cons (ps_if (PW.pt (pw_or (pt_cmpR op_isN (pv 13) pe_non (nomark _)) (pw_or1 (pt_cmpR op_isN (pv 12) pe_non (nomark _))))) (pss_one (ps_ret (pe_and (pe_cmpR op_isN (pv 13) pe_non (nomark _)) (pe_one (pe_cmpR op_isN (pv 12) pe_non (nomark _)))))) pss_nil)
      (pss_cons (ps_setLc (i := 14) (own := [("pick", 15)]) (g := gName 15) (tt := tYes) rfl sc_law.nd rfl rfl (sw_true rfl rfl rfl (by decide +kernel)) (kpil (K := K) rfl (pv 12)) (blkOk_by (N := ["script", "pool", "scene", "group", "side", "wallet", "holdings", "issuer", "index", "kind", "randomness", "numbers", "actual", "due", "told", "pick"]) (sc := defScope s_law) (by decide +kernel))
        (fun _ _ _ _ _ => (pg_name (i := 15) sc_law.nd rfl (.inl rfl))) (fun _ _ _ _ _ => pts_nil)
        (fun _ _ _ _ _ => (pe_tupF (pa_cons (kfld (K := K) rfl (pv 15)) (pa_cons (kfld (K := K) rfl (pv 15)) (pa_cons (kfld (K := K) rfl (pv 15)) pa_nil))))))
      (pss_one (ps_ret (pe_and (pe_callB (kisi (K := K) rfl) (by rfl) B.isinstance bt_isinstance (pa_cons (pv 12) (pa_cons (pe_bltn (v := .ty "list") (u := .type "list") (by rfl) B.list bt_list rfl) pa_nil))) (pe_one (C8.pe_c C__law_same hr (by omega) rfl (pa_cons (pv 14) (pa_cons (pv 13) pa_nil))))))))))))))))))), ?_⟩
  refine law_startB (ca := ca) (E := fun _ _ _ _ => False) hS z (fun po => (z_seq (z_set fun _ => (b_up fun _ => (a_call (a_cons a_var (a_cons a_int (a_cons a_int a_nil))))))
      (z_seq (z_set fun _ => (b_up fun _ => (a_dget a_var a_str)))
      (z_seq (z_set fun _ => (b_up fun _ => (a_call (a_cons a_var (a_cons a_int a_nil)))))
      (z_seq (z_set fun _ => (b_make2 (b_upA fun _ => (a_cons (a_make (a_cons (a_op pst_pk rok_ix (a_pk a_var) a_int) (a_cons (a_op pst_pk rok_ix (a_pk a_var) a_int) (a_cons (a_op pst_pk rok_ix (a_pk a_var) a_int) a_nil)))) (a_cons (a_op pst_pk rok_ix (a_pk (a_dget a_var a_str)) a_var) a_nil)))))
      (z_seq (z_set fun _ => (b_up fun _ => (a_call (a_cons a_var (a_cons a_var (a_cons a_var a_nil))))))
      (z_seq (z_for (vs := [7, 8, 9, 10, 11]) (fun _ => (b_upI fun _ => (i_list a_var))) (fun _ => (g_tup (g_cons (g_name (by decide)) (g_cons (g_name (by decide)) (g_cons (g_name (by decide)) (g_cons (g_name (by decide)) (g_cons (g_name (by decide)) g_nil tot_name) tot_name) tot_name) tot_name) tot_name)))
      (z_drop fun _ => (b_meth2 (c := 6) (by decide) (b_up fun _ => a_var) (b_upA fun _ => (a_cons a_var (a_cons a_var (a_cons a_var (a_cons a_var (a_cons (a_fz (a_b1F u_listOf (a_pk a_var))) a_nil)))))))))
      (z_seq (z_stl (z_if (fun _ => (b_upT fun _ => (a_not (a_tb (a_call (a_cons (a_fld T6.cl T6.n_holdings (c := 6) (i := 2) rfl a_var) (a_cons a_var a_nil))))))) (z_ret fun _ => (b_up fun _ => a_bl)) z_next))
      (z_seq (z_set fun _ => (b_up fun _ => (a_meth (by decide) a_var (a_cons (a_call (a_cons a_var a_nil)) a_nil))))
      (z_seq (z_set fun _ => (b_up fun _ => (a_call (a_cons a_var (a_cons a_var a_nil)))))
      (z_seq (z_if (fun _ => (b_upT fun _ => (a_or (a_test (a_op pst_rv rok_isN a_var a_non)) (a_test (a_op pst_rv rok_isN a_var a_non))))) (z_ret fun _ => (b_up fun _ => (a_andV (a_op pst_rv rok_isN a_var a_non) (a_op pst_rv rok_isN a_var a_non)))) z_next)
      (z_seq (z_set fun _ => (b_up fun _ => (a_fz (a_lc (vs := [15]) (i_list a_var) (g_name (by decide)) a_yes (a_tup (a_cons (a_fld T7.cl T7.n_row (c := 7) (i := 0) rfl a_var) (a_cons (a_fld T7.cl T7.n_randomness (c := 7) (i := 1) rfl a_var) (a_cons (a_fld T7.cl T7.n_numbers (c := 7) (i := 2) rfl a_var) a_nil))))))))
      (z_ret fun _ => (b_up fun _ => (a_andV (a_isT (by decide) a_var) (a_call (a_cons a_var (a_cons a_var a_nil)))))))))))))))))) ?_
  refine zseqG fun N hN => ?_
  walk_at "wq"
  refine ⟨2, 3, rfl, ⟨by omega, by omega, by omega⟩, fun s ok => ?_⟩
  subst hN
  refine zseqG fun N hN => ?_
  walk_at "wq"
  rw [sc_group]
  unfold lgD
  walk_at "wq"
  subst hN
  refine zseqG fun N hN => ?_
  walk_at "wq"
  refine draw (by omega) (by omega) fun sz z0 z1 => ?_
  obtain ⟨side, rfl⟩ := Int.eq_ofNat_of_zero_le z0
  subst hN
  refine zseqG fun N hN => ?_
  walk_at "wq"
  refine ⟨s.p, s.q, s.bs, rfl, ok.gk, ?_⟩
  dsimp only
  rw [sc_secrets]
  walk_at "wq"
  have hsec : ([.int s.s0, .int s.s1] : List Dat)[side]? = some (.int (if side = 0 then s.s0 else s.s1)) := by
    rcases side with _ | _ | n
    · rfl
    · rfl
    · omega
  rw [atD rfl hsec]
  generalize (if side = 0 then s.s0 else s.s1) = sec
  walk_at "wq"
  intro wl _
  refine ⟨wl, _, _, rfl, Sto.put_s, fun hl hhl => ⟨rfl, ?_⟩⟩
  rw [Sto.pp]
  have nhw : hl ≠ wl := fun z => by
    rw [z, Sto.put_s] at hhl
    cases hhl
  have m1 : ((Sto.put (fun _ => none) wl (some (.obj 6 [.obj 0 [.int s.p, .int s.q, .tup (s.bs.map .int)], .int sec, .cell hl]))).put hl (some (.lst []))) wl = some (.obj 6 [.obj 0 [.int s.p, .int s.q, .tup (s.bs.map .int)], .int sec, .cell hl]) := by rw [Sto.put_n (Ne.symm nhw), Sto.put_s]
  have m2 : ((Sto.put (fun _ => none) wl (some (.obj 6 [.obj 0 [.int s.p, .int s.q, .tup (s.bs.map .int)], .int sec, .cell hl]))).put hl (some (.lst []))) hl = some (.lst []) := Sto.put_s
  generalize ((Sto.put (fun _ => none) wl (some (.obj 6 [.obj 0 [.int s.p, .int s.q, .tup (s.bs.map .int)], .int sec, .cell hl]))).put hl (some (.lst []))) = M at m1 m2 ⊢
  subst hN
  refine zseqG fun N hN => ?_
  walk_at "wq"
  refine ⟨2, 3, s, side, rfl, ⟨ok, by omega, by omega⟩, fun hs hok => ?_⟩
  have lh := hok.ln
  walk_at "wq"
  subst hN
  refine zseqG fun N hN => ?_
  walk_at "wq"
  have hSt : ∃ W : List Hd → List Sl → Sto → Prop, ∀ xs env M, W xs env M ↔ ∃ (dn : List Hd) (t7 t8 t9 t10 t11 t12 t13 t14 t15 : Sl), env = [Sl.u, Sl.d Dat.pool, Sl.d (scnD s), Sl.d (.tup [.int s.p, .int s.q, .lst (s.bs.map .int)]), Sl.d (.int side), Sl.d (.cell wl), Sl.d (.lst (hs.map hdD)), t7, t8, t9, t10, t11, t12, t13, t14, t15] ∧ dn ++ xs = hs ∧
    M wl = some (.obj 6 [.obj 0 [.int s.p, .int s.q, .tup (s.bs.map .int)], .int sec, .cell hl]) ∧ M hl = some (.lst (dn.map hdD)) := ⟨_, fun _ _ _ => Iff.rfl⟩
  obtain ⟨W, hW⟩ := hSt
  refine forB_suf (f := hdD) W ?_ ?_ hs _ _ ((hW _ _ _).mpr ⟨[], _, _, _, _, _, _, _, _, _, rfl, rfl, m1, m2⟩)
  · intro h xs env M w N2 hN2
    obtain ⟨dn, t7, t8, t9, t10, t11, t12, t13, t14, t15, rfl, edn, g1, g2⟩ := (hW _ _ _).mp w
    clear w
    have mh : h ∈ hs := by rw [← edn]; exact List.mem_append.mpr (.inr List.mem_cons_self)
    have ld : dn.length ≤ 10 := by
      have := congrArg List.length edn
      rw [List.length_append] at this
      omega
    rw [show hdD h = .tup [.str h.nm, .int h.ix, .str h.kn, .int h.r, .tup (h.vs.map .int)] from rfl]
    walk_at "wq"
    have l4 := hok.l4 h mh
    rw [g1]
    refine ⟨rfl, wl, hl, _, _, _, h, rfl, g1, g2, by rw [List.length_map]; omega, by omega, ?_⟩
    refine hN2 _ _ ((hW _ _ _).mpr ⟨dn ++ [h], _, _, _, _, _, _, _, _, _, rfl, by rw [List.append_assoc]; exact edn, by rw [Sto.put_n (Ne.symm nhw)]; exact g1, by rw [Sto.put_s, List.map_append]; rfl⟩)
  intro env M w
  obtain ⟨dn, t7, t8, t9, t10, t11, t12, t13, t14, t15, rfl, edn, g1, g2⟩ := (hW _ _ _).mp w
  clear w hW W
  rw [List.append_nil] at edn
  subst edn
  show N _ _
  subst hN
  have hv : vwX 2 M (.cell wl) = wlD (.obj 0 [.int s.p, .int s.q, .tup (s.bs.map .int)]) sec dn := by
    rw [vx_obj g1 rfl]
    show Dat.obj 6 [vwX 1 M (.obj 0 _), .int sec, vwX 1 M (.cell hl)] = _
    rw [vx_lst g2, vx_o, show (dn.map hdD).map (vwX 0 M) = dn.map hdD from List.map_id _]
    rfl
  refine zseqG fun N hN => ?_
  refine ⟨[Sl.u, Sl.d Dat.pool, Sl.d (scnD s), Sl.d (.tup [.int s.p, .int s.q, .lst (s.bs.map .int)]), Sl.d (.int side), Sl.d (wlD (.obj 0 [.int s.p, .int s.q, .tup (s.bs.map .int)]) sec dn), Sl.d (.lst (dn.map hdD)), t7, t8, t9, t10, t11, t12, t13, t14, t15], ?_, ?_⟩
  · exact .cons (.inl rfl) (.cons (.inl rfl) (.cons (.inl rfl) (.cons (.inl rfl) (.cons (.inl rfl) (.cons (.inr ⟨2, _, rfl, by rw [hv]⟩) (.cons (.inl rfl) (.cons (.inl rfl) (.cons (.inl rfl) (.cons (.inl rfl) (.cons (.inl rfl) (.cons (.inl rfl) (.cons (.inl rfl) (.cons (.inl rfl) (.cons (.inl rfl) (.cons (.inl rfl) .nil)))))))))))))))
  rw [show wlD (.obj 0 [.int s.p, .int s.q, .tup (s.bs.map .int)]) sec dn = .obj 6 [.obj 0 [.int s.p, .int s.q, .tup (s.bs.map .int)], .int sec, .lst (dn.map hdD)] from rfl]
  walk_at "wq"
  refine same_ok (plAll_map fun h _ => pl_hd h) (okS_lst (by rw [List.length_map]; omega) (okS_map fun h mh => okS_hd (by have := hok.l4 h mh; omega))) rfl ?_
  subst hN
  refine zseqG fun N hN => ?_
  walk_at "wq"
  refine ⟨2, 3, s, rfl, ⟨ok, by omega, by omega⟩, ?_⟩
  refine ⟨2, 3, s, dn, _, _, rfl, ⟨ok, by omega, by omega, hok⟩, ?_⟩
  subst hN
  refine zseqG fun N hN => ?_
  walk_at "wq"
  refine ⟨2, 3, s, dn, rfl, ⟨ok, by omega, by omega, hok⟩, ?_⟩
  subst hN
  rw [firstA_fnd]
  cases hf : (fnd s dn s.cs.length).find? fun ps => s.co.all (meetB s (lookP ps)) with
  | none =>
    refine zseqG fun N hN => ?_
    unfold optD optT
    walk_at "wq"
  | some ps =>
    have hps := (fnd_ok ok hok s.cs.length (Nat.le_refl _)).2 ps (List.mem_of_find?_eq_some hf)
    refine zseqG fun N hN => ?_
    unfold optD optT psD
    walk_at "wq"
    subst hN
    refine zseqG fun N hN => ?_
    walk_at "wq"
    have lc := ok.lc
    have l4 : ∀ x ∈ ps, x.vs.length ≤ 4 := fun x hx => by
      obtain ⟨k, hk⟩ := List.mem_iff_getElem?.mp hx
      have hk2 := (List.getElem?_eq_some_iff.mp hk).1
      have hc : s.cs[k]? = some (s.cs[k]'(by omega)) := List.getElem?_eq_getElem _
      have h1 := prd_len (hps.2 k _ x hc hk)
      have h2 := kfS_le ok (List.mem_of_getElem? hc)
      omega
    refine ⟨by rw [List.length_map]; omega, ?_⟩
    refine lcA_mapL (g := pk3D) (fun x hx Q hQ => ?_) ?_
    · unfold pkO
      walk_at "wq"
      exact hQ
    subst hN
    walk_at "wq"
    exact same_end (plAll_map fun h _ => pl_pk h) (okS_lst (by rw [List.length_map]; omega) (okS_map fun x mx => okS_pk (by have := l4 x mx; omega))) rfl rfl
end
theorem cal_weak {P : Program} {w : World} {K : PySem.W.Frag} {mg : Str → Option Value} {base : Heap} {k : Nat} {x : Str} {sp sp' : Sp} {dvs : List V} (h : ∀ vs H Q E, sp' vs H Q E → sp vs H Q E) (C : C8.Cal P w K mg base k x sp dvs) : C8.Cal P w K mg base k x sp' dvs := by
  obtain ⟨f, fd, ps, ds, F, a, b, c, d⟩ := C.ex
  exact ⟨⟨f, fd, ps, ds, fn_weak h F, a, b, c, d⟩⟩
def caV (C0 C3 C6 C7 CPl CQn : Addr) : Nat → Addr := fun k => if k = 3 then C3 else if k = 6 then C6 else if k = 7 then C7 else if k = 8 then CPl else if k = 9 then CQn else C0
set_option maxHeartbeats 0 in
theorem all_mk {l : PySem.W.OpenLaw} {w : World} {K : PySem.W.Frag} {h : Heap} {mg : Str → Option Value} {fa f0 f1 f2 f3 f4 f5 f6 f7 f8 f9 f10 f11 f12 f13 f14 f15 f16 f17 f18 f19 f20 f21 f22 f23 f24 f25 f26 f27 f28 f29 f30 f31 f32 f33 f34 f35 f36 f37 f38 f39 f40 f41 f42 f43 : Addr} {C0 C3 C6 C7 CPl CQn : Addr} {tS tL tF tM : Tok} (X : K.In h) (G : h.Ns mainGlobals mg) (hfa : mg "law" = some (.ref fa))
    {od0 an0 od1 an1 od2 an2 od3 an3 od4 an4 od5 an5 od6 an6 od7 an7 od8 an8 od9 an9 od10 an10 od11 an11 od12 an12 od13 an13 od14 an14 od15 an15 od16 an16 od17 an17 od18 an18 od19 an19 od20 an20 od21 an21 od22 an22 od23 an23 od24 an24 od25 an25 od26 an26 od27 an27 od28 an28 od29 an29 od30 an30 od31 an31 od32 an32 od33 an33 od34 an34 od35 an35 od36 an36 od37 an37 od38 an38 od39 an39 od40 an40 od41 an41 od42 an42 od43 an43 : Option Addr} {sl0 sl1 sl2 sl3 sl4 sl5 sl6 sl7 sl8 sl9 sl10 sl11 sl12 sl13 sl14 sl15 sl16 sl17 sl18 sl19 sl20 sl21 sl22 sl23 sl24 sl25 sl26 sl27 sl28 sl29 sl30 sl31 sl32 sl33 sl34 sl35 sl36 sl37 sl38 sl39 sl40 sl41 sl42 sl43 : Array (Option Value)} {oc0 kV0 dc0 pm0 cd0 ct0 oc1 kV1 dc1 pm1 cd1 ct1 oc2 kV2 dc2 pm2 cd2 ct2 oc3 kV3 dc3 pm3 cd3 ct3 oc4 kV4 dc4 pm4 cd4 ct4 oc5 kV5 dc5 pm5 cd5 ct5 oc6 kV6 dc6 pm6 cd6 ct6 oc7 kV7 dc7 pm7 cd7 ct7 oc8 kV8 dc8 pm8 cd8 ct8 oc9 kV9 dc9 pm9 cd9 ct9 oc10 kV10 dc10 pm10 cd10 ct10 oc11 kV11 dc11 pm11 cd11 ct11 oc12 kV12 dc12 pm12 cd12 ct12 oc13 kV13 dc13 pm13 cd13 ct13 oc14 kV14 dc14 pm14 cd14 ct14 oc15 kV15 dc15 pm15 cd15 ct15 oc16 kV16 dc16 pm16 cd16 ct16 oc17 kV17 dc17 pm17 cd17 ct17 oc18 kV18 dc18 pm18 cd18 ct18 oc19 kV19 dc19 pm19 cd19 ct19 oc20 kV20 dc20 pm20 cd20 ct20 oc21 kV21 dc21 pm21 cd21 ct21 oc22 kV22 dc22 pm22 cd22 ct22 oc23 kV23 dc23 pm23 cd23 ct23 oc24 kV24 dc24 pm24 cd24 ct24 oc25 kV25 dc25 pm25 cd25 ct25 oc26 kV26 dc26 pm26 cd26 ct26 oc27 kV27 dc27 pm27 cd27 ct27 oc28 kV28 dc28 pm28 cd28 ct28 oc29 kV29 dc29 pm29 cd29 ct29 oc30 kV30 dc30 pm30 cd30 ct30 oc31 kV31 dc31 pm31 cd31 ct31 oc32 kV32 dc32 pm32 cd32 ct32 oc33 kV33 dc33 pm33 cd33 ct33 oc34 kV34 dc34 pm34 cd34 ct34 oc35 kV35 dc35 pm35 cd35 ct35 oc36 kV36 dc36 pm36 cd36 ct36 oc37 kV37 dc37 pm37 cd37 ct37 oc38 kV38 dc38 pm38 cd38 ct38 oc39 kV39 dc39 pm39 cd39 ct39 oc40 kV40 dc40 pm40 cd40 ct40 oc41 kV41 dc41 pm41 cd41 ct41 oc42 kV42 dc42 pm42 cd42 ct42 oc43 kV43 dc43 pm43 cd43 ct43 : Value}
    (a_C0 : PySem.W.nsIn K mainGlobals "Group" = some (some (.ref C0)))
    (pg_C0 : PySem.W.plainGet K C0 Str.empty = true)
    (hd_C0 : PySem.W.hasDictIn K C0 = true)
    (po_C0 : PySem.W.plainOver K C0 = true)
    (sa_C0 : PySem.W.findIn K (.ref C0) "__setattr__" = some (some (.builtin "object.__setattr__")))
    (mk_C0 : PySem.W.makesIn K C0 = true)
    (kc_C0 : PySem.W.keepIn K (.ref C0) = true)
    (nC0p : PySem.W.findIn K (.ref C0) "p" = some none)
    (nC0q : PySem.W.findIn K (.ref C0) "q" = some none)
    (nC0bases : PySem.W.findIn K (.ref C0) "bases" = some none)
    (a_C3 : PySem.W.nsIn K mainGlobals "Kind" = some (some (.ref C3)))
    (pg_C3 : PySem.W.plainGet K C3 Str.empty = true)
    (hd_C3 : PySem.W.hasDictIn K C3 = true)
    (po_C3 : PySem.W.plainOver K C3 = true)
    (sa_C3 : PySem.W.findIn K (.ref C3) "__setattr__" = some (some (.builtin "object.__setattr__")))
    (mk_C3 : PySem.W.makesIn K C3 = true)
    (kc_C3 : PySem.W.keepIn K (.ref C3) = true)
    (nC3name : PySem.W.findIn K (.ref C3) "name" = some none)
    (nC3fields : PySem.W.findIn K (.ref C3) "fields" = some none)
    (a_C6 : PySem.W.nsIn K mainGlobals "Wallet" = some (some (.ref C6)))
    (pg_C6 : PySem.W.plainGet K C6 Str.empty = true)
    (hd_C6 : PySem.W.hasDictIn K C6 = true)
    (po_C6 : PySem.W.plainOver K C6 = true)
    (sa_C6 : PySem.W.findIn K (.ref C6) "__setattr__" = some (some (.builtin "object.__setattr__")))
    (mk_C6 : PySem.W.makesIn K C6 = true)
    (kc_C6 : PySem.W.keepIn K (.ref C6) = true)
    (nC6group : PySem.W.findIn K (.ref C6) "group" = some none)
    (nC6secret : PySem.W.findIn K (.ref C6) "secret" = some none)
    (nC6holdings : PySem.W.findIn K (.ref C6) "holdings" = some none)
    (a_C7 : PySem.W.nsIn K mainGlobals "Pick" = some (some (.ref C7)))
    (pg_C7 : PySem.W.plainGet K C7 Str.empty = true)
    (hd_C7 : PySem.W.hasDictIn K C7 = true)
    (po_C7 : PySem.W.plainOver K C7 = true)
    (sa_C7 : PySem.W.findIn K (.ref C7) "__setattr__" = some (some (.builtin "object.__setattr__")))
    (mk_C7 : PySem.W.makesIn K C7 = true)
    (kc_C7 : PySem.W.keepIn K (.ref C7) = true)
    (nC7row : PySem.W.findIn K (.ref C7) "row" = some none)
    (nC7randomness : PySem.W.findIn K (.ref C7) "randomness" = some none)
    (nC7numbers : PySem.W.findIn K (.ref C7) "numbers" = some none)
    (a_CPl : PySem.W.nsIn K mainGlobals "Policy" = some (some (.ref CPl)))
    (pg_CPl : PySem.W.plainGet K CPl Str.empty = true)
    (hd_CPl : PySem.W.hasDictIn K CPl = true)
    (po_CPl : PySem.W.plainOver K CPl = true)
    (sa_CPl : PySem.W.findIn K (.ref CPl) "__setattr__" = some (some (.builtin "object.__setattr__")))
    (mk_CPl : PySem.W.makesIn K CPl = true)
    (kc_CPl : PySem.W.keepIn K (.ref CPl) = true)
    (nCPlcards : PySem.W.findIn K (.ref CPl) "cards" = some none)
    (nCPlconditions : PySem.W.findIn K (.ref CPl) "conditions" = some none)
    (a_CQn : PySem.W.nsIn K mainGlobals "Question" = some (some (.ref CQn)))
    (pg_CQn : PySem.W.plainGet K CQn Str.empty = true)
    (hd_CQn : PySem.W.hasDictIn K CQn = true)
    (po_CQn : PySem.W.plainOver K CQn = true)
    (sa_CQn : PySem.W.findIn K (.ref CQn) "__setattr__" = some (some (.builtin "object.__setattr__")))
    (mk_CQn : PySem.W.makesIn K CQn = true)
    (kc_CQn : PySem.W.keepIn K (.ref CQn) = true)
    (nCQngroup : PySem.W.findIn K (.ref CQn) "group" = some none)
    (nCQnkinds : PySem.W.findIn K (.ref CQn) "kinds" = some none)
    (nCQnpolicy : PySem.W.findIn K (.ref CQn) "policy" = some none)
    (nCQnrows : PySem.W.findIn K (.ref CQn) "rows" = some none)
    (gS : PySem.W.nsIn K mainGlobals "SMALLEST_P" = some (some (.int 3 tS)))
    (gL : PySem.W.nsIn K mainGlobals "LARGEST_P" = some (some (.int 1000000 tL)))
    (gF : PySem.W.nsIn K mainGlobals "FEWEST_BASES" = some (some (.int 2 tF)))
    (gM : PySem.W.nsIn K mainGlobals "MOST_BASES" = some (some (.int 12 tM)))
    (a0 : PySem.W.nsIn K mainGlobals "power" = some (some (.ref f0)))
    (l0 : K.lookup f0 = some ⟨oc0, od0, .func (PySem.W.fnOf "power" "power" (defArgs s_power) (defBody s_power) (defScope s_power) .none kV0 dc0 pm0 an0 cd0 ct0), sl0⟩) (c0 : PySem.W.codeIn K cd0 "power" = true) (k0 : PySem.W.keepIn K (.ref f0) = true)
    (a1 : PySem.W.nsIn K mainGlobals "is_prime" = some (some (.ref f1)))
    (l1 : K.lookup f1 = some ⟨oc1, od1, .func (PySem.W.fnOf "is_prime" "is_prime" (defArgs s_is_prime) (defBody s_is_prime) (defScope s_is_prime) .none kV1 dc1 pm1 an1 cd1 ct1), sl1⟩) (c1 : PySem.W.codeIn K cd1 "is_prime" = true) (k1 : PySem.W.keepIn K (.ref f1) = true)
    (a2 : PySem.W.nsIn K mainGlobals "_is_root" = some (some (.ref f2)))
    (l2 : K.lookup f2 = some ⟨oc2, od2, .func (PySem.W.fnOf "_is_root" "_is_root" (defArgs s__is_root) (defBody s__is_root) (defScope s__is_root) .none kV2 dc2 pm2 an2 cd2 ct2), sl2⟩) (c2 : PySem.W.codeIn K cd2 "_is_root" = true) (k2 : PySem.W.keepIn K (.ref f2) = true)
    (a3 : PySem.W.nsIn K mainGlobals "_check_primes" = some (some (.ref f3)))
    (l3 : K.lookup f3 = some ⟨oc3, od3, .func (PySem.W.fnOf "_check_primes" "_check_primes" (defArgs s__check_primes) (defBody s__check_primes) (defScope s__check_primes) .none kV3 dc3 pm3 an3 cd3 ct3), sl3⟩) (c3 : PySem.W.codeIn K cd3 "_check_primes" = true) (k3 : PySem.W.keepIn K (.ref f3) = true)
    (a4 : PySem.W.nsIn K mainGlobals "_check_bases" = some (some (.ref f4)))
    (l4 : K.lookup f4 = some ⟨oc4, od4, .func (PySem.W.fnOf "_check_bases" "_check_bases" (defArgs s__check_bases) (defBody s__check_bases) (defScope s__check_bases) .none kV4 dc4 pm4 an4 cd4 ct4), sl4⟩) (c4 : PySem.W.codeIn K cd4 "_check_bases" = true) (k4 : PySem.W.keepIn K (.ref f4) = true)
    (a5 : PySem.W.findIn K (.ref C0) "__init__" = some (some (.ref f5))) (i5 : PySem.W.isFn K (.ref f5) = true)
    (l5 : K.lookup f5 = some ⟨oc5, od5, .func (PySem.W.fnOf "__init__" "Group.__init__" (defArgs s_Group___init__) (defBody s_Group___init__) (defScope s_Group___init__) .none kV5 dc5 pm5 an5 cd5 ct5), sl5⟩) (c5 : PySem.W.codeIn K cd5 "Group.__init__" = true) (k5 : PySem.W.keepIn K (.ref f5) = true)
    (a6 : PySem.W.findIn K (.ref C3) "__init__" = some (some (.ref f6))) (i6 : PySem.W.isFn K (.ref f6) = true)
    (l6 : K.lookup f6 = some ⟨oc6, od6, .func (PySem.W.fnOf "__init__" "Kind.__init__" (defArgs s_Kind___init__) (defBody s_Kind___init__) (defScope s_Kind___init__) .none kV6 dc6 pm6 an6 cd6 ct6), sl6⟩) (c6 : PySem.W.codeIn K cd6 "Kind.__init__" = true) (k6 : PySem.W.keepIn K (.ref f6) = true)
    (a7 : PySem.W.nsIn K mainGlobals "_kept" = some (some (.ref f7)))
    (l7 : K.lookup f7 = some ⟨oc7, od7, .func (PySem.W.fnOf "_kept" "_kept" (defArgs s__kept) (defBody s__kept) (defScope s__kept) .none kV7 dc7 pm7 an7 cd7 ct7), sl7⟩) (c7 : PySem.W.codeIn K cd7 "_kept" = true) (k7 : PySem.W.keepIn K (.ref f7) = true)
    (a8 : PySem.W.findIn K (.ref CPl) "__init__" = some (some (.ref f8))) (i8 : PySem.W.isFn K (.ref f8) = true)
    (l8 : K.lookup f8 = some ⟨oc8, od8, .func (PySem.W.fnOf "__init__" "Policy.__init__" (defArgs s_Policy___init__) (defBody s_Policy___init__) (defScope s_Policy___init__) .none kV8 dc8 pm8 an8 cd8 ct8), sl8⟩) (c8 : PySem.W.codeIn K cd8 "Policy.__init__" = true) (k8 : PySem.W.keepIn K (.ref f8) = true)
    (a9 : PySem.W.findIn K (.ref CQn) "__init__" = some (some (.ref f9))) (i9 : PySem.W.isFn K (.ref f9) = true)
    (l9 : K.lookup f9 = some ⟨oc9, od9, .func (PySem.W.fnOf "__init__" "Question.__init__" (defArgs s_Question___init__) (defBody s_Question___init__) (defScope s_Question___init__) .none kV9 dc9 pm9 an9 cd9 ct9), sl9⟩) (c9 : PySem.W.codeIn K cd9 "Question.__init__" = true) (k9 : PySem.W.keepIn K (.ref f9) = true)
    (a10 : PySem.W.findIn K (.ref C7) "__init__" = some (some (.ref f10))) (i10 : PySem.W.isFn K (.ref f10) = true)
    (l10 : K.lookup f10 = some ⟨oc10, od10, .func (PySem.W.fnOf "__init__" "Pick.__init__" (defArgs s_Pick___init__) (defBody s_Pick___init__) (defScope s_Pick___init__) .none kV10 dc10 pm10 an10 cd10 ct10), sl10⟩) (c10 : PySem.W.codeIn K cd10 "Pick.__init__" = true) (k10 : PySem.W.keepIn K (.ref f10) = true)
    (a11 : PySem.W.nsIn K mainGlobals "fields_of" = some (some (.ref f11)))
    (l11 : K.lookup f11 = some ⟨oc11, od11, .func (PySem.W.fnOf "fields_of" "fields_of" (defArgs s_fields_of) (defBody s_fields_of) (defScope s_fields_of) .none kV11 dc11 pm11 an11 cd11 ct11), sl11⟩) (c11 : PySem.W.codeIn K cd11 "fields_of" = true) (k11 : PySem.W.keepIn K (.ref f11) = true)
    (a12 : PySem.W.nsIn K mainGlobals "_place_named" = some (some (.ref f12)))
    (l12 : K.lookup f12 = some ⟨oc12, od12, .func (PySem.W.fnOf "_place_named" "_place_named" (defArgs s__place_named) (defBody s__place_named) (defScope s__place_named) .none kV12 dc12 pm12 an12 cd12 ct12), sl12⟩) (c12 : PySem.W.codeIn K cd12 "_place_named" = true) (k12 : PySem.W.keepIn K (.ref f12) = true)
    (a13 : PySem.W.nsIn K mainGlobals "conditions_of" = some (some (.ref f13)))
    (l13 : K.lookup f13 = some ⟨oc13, od13, .func (PySem.W.fnOf "conditions_of" "conditions_of" (defArgs s_conditions_of) (defBody s_conditions_of) (defScope s_conditions_of) .none kV13 dc13 pm13 an13 cd13 ct13), sl13⟩) (c13 : PySem.W.codeIn K cd13 "conditions_of" = true) (k13 : PySem.W.keepIn K (.ref f13) = true)
    (a14 : PySem.W.nsIn K mainGlobals "_lets" = some (some (.ref f14)))
    (l14 : K.lookup f14 = some ⟨oc14, od14, .func (PySem.W.fnOf "_lets" "_lets" (defArgs s__lets) (defBody s__lets) (defScope s__lets) .none kV14 dc14 pm14 an14 cd14 ct14), sl14⟩) (c14 : PySem.W.codeIn K cd14 "_lets" = true) (k14 : PySem.W.keepIn K (.ref f14) = true)
    (a15 : PySem.W.nsIn K mainGlobals "meet_conditions" = some (some (.ref f15)))
    (l15 : K.lookup f15 = some ⟨oc15, od15, .func (PySem.W.fnOf "meet_conditions" "meet_conditions" (defArgs s_meet_conditions) (defBody s_meet_conditions) (defScope s_meet_conditions) .none kV15 dc15 pm15 an15 cd15 ct15), sl15⟩) (c15 : PySem.W.codeIn K cd15 "meet_conditions" = true) (k15 : PySem.W.keepIn K (.ref f15) = true)
    (a16 : PySem.W.nsIn K mainGlobals "answers" = some (some (.ref f16)))
    (l16 : K.lookup f16 = some ⟨oc16, od16, .func (PySem.W.fnOf "answers" "answers" (defArgs s_answers) (defBody s_answers) (defScope s_answers) .none kV16 dc16 pm16 an16 cd16 ct16), sl16⟩) (c16 : PySem.W.codeIn K cd16 "answers" = true) (k16 : PySem.W.keepIn K (.ref f16) = true)
    (a17 : PySem.W.nsIn K mainGlobals "_first_answer" = some (some (.ref f17)))
    (l17 : K.lookup f17 = some ⟨oc17, od17, .func (PySem.W.fnOf "_first_answer" "_first_answer" (defArgs s__first_answer) (defBody s__first_answer) (defScope s__first_answer) .none kV17 dc17 pm17 an17 cd17 ct17), sl17⟩) (c17 : PySem.W.codeIn K cd17 "_first_answer" = true) (k17 : PySem.W.keepIn K (.ref f17) = true)
    (a18 : PySem.W.findIn K (.ref C6) "_candidates" = some (some (.ref f18))) (i18 : PySem.W.isFn K (.ref f18) = true)
    (l18 : K.lookup f18 = some ⟨oc18, od18, .func (PySem.W.fnOf "_candidates" "Wallet._candidates" (defArgs s_Wallet__candidates) (defBody s_Wallet__candidates) (defScope s_Wallet__candidates) .none kV18 dc18 pm18 an18 cd18 ct18), sl18⟩) (c18 : PySem.W.codeIn K cd18 "Wallet._candidates" = true) (k18 : PySem.W.keepIn K (.ref f18) = true)
    (a19 : PySem.W.findIn K (.ref C6) "picks" = some (some (.ref f19))) (i19 : PySem.W.isFn K (.ref f19) = true)
    (l19 : K.lookup f19 = some ⟨oc19, od19, .func (PySem.W.fnOf "picks" "Wallet.picks" (defArgs s_Wallet_picks) (defBody s_Wallet_picks) (defScope s_Wallet_picks) .none kV19 dc19 pm19 an19 cd19 ct19), sl19⟩) (c19 : PySem.W.codeIn K cd19 "Wallet.picks" = true) (k19 : PySem.W.keepIn K (.ref f19) = true)
    (a20 : PySem.W.findIn K (.ref C6) "__init__" = some (some (.ref f20))) (i20 : PySem.W.isFn K (.ref f20) = true)
    (l20 : K.lookup f20 = some ⟨oc20, od20, .func (PySem.W.fnOf "__init__" "Wallet.__init__" (defArgs s_Wallet___init__) (defBody s_Wallet___init__) (defScope s_Wallet___init__) .none kV20 dc20 pm20 an20 cd20 ct20), sl20⟩) (c20 : PySem.W.codeIn K cd20 "Wallet.__init__" = true) (k20 : PySem.W.keepIn K (.ref f20) = true)
    (a21 : PySem.W.findIn K (.ref C6) "keep" = some (some (.ref f21))) (i21 : PySem.W.isFn K (.ref f21) = true)
    (l21 : K.lookup f21 = some ⟨oc21, od21, .func (PySem.W.fnOf "keep" "Wallet.keep" (defArgs s_Wallet_keep) (defBody s_Wallet_keep) (defScope s_Wallet_keep) .none kV21 dc21 pm21 an21 cd21 ct21), sl21⟩) (c21 : PySem.W.codeIn K cd21 "Wallet.keep" = true) (k21 : PySem.W.keepIn K (.ref f21) = true)
    (a22 : PySem.W.nsIn K mainGlobals "_law_pool" = some (some (.ref f22)))
    (l22 : K.lookup f22 = some ⟨oc22, od22, .func (PySem.W.fnOf "_law_pool" "_law_pool" (defArgs s__law_pool) (defBody s__law_pool) (defScope s__law_pool) .none kV22 dc22 pm22 an22 cd22 ct22), sl22⟩) (c22 : PySem.W.codeIn K cd22 "_law_pool" = true) (k22 : PySem.W.keepIn K (.ref f22) = true)
    (a23 : PySem.W.nsIn K mainGlobals "_law_draw" = some (some (.ref f23)))
    (l23 : K.lookup f23 = some ⟨oc23, od23, .func (PySem.W.fnOf "_law_draw" "_law_draw" (defArgs s__law_draw) (defBody s__law_draw) (defScope s__law_draw) .none kV23 dc23 pm23 an23 cd23 ct23), sl23⟩) (c23 : PySem.W.codeIn K cd23 "_law_draw" = true) (k23 : PySem.W.keepIn K (.ref f23) = true)
    (a24 : PySem.W.nsIn K mainGlobals "_law_same" = some (some (.ref f24)))
    (l24 : K.lookup f24 = some ⟨oc24, od24, .func (PySem.W.fnOf "_law_same" "_law_same" (defArgs s__law_same) (defBody s__law_same) (defScope s__law_same) .none kV24 dc24 pm24 an24 cd24 ct24), sl24⟩) (c24 : PySem.W.codeIn K cd24 "_law_same" = true) (k24 : PySem.W.keepIn K (.ref f24) = true)
    (a25 : PySem.W.nsIn K mainGlobals "_law_power" = some (some (.ref f25)))
    (l25 : K.lookup f25 = some ⟨oc25, od25, .func (PySem.W.fnOf "_law_power" "_law_power" (defArgs s__law_power) (defBody s__law_power) (defScope s__law_power) .none kV25 dc25 pm25 an25 cd25 ct25), sl25⟩) (c25 : PySem.W.codeIn K cd25 "_law_power" = true) (k25 : PySem.W.keepIn K (.ref f25) = true)
    (a26 : PySem.W.nsIn K mainGlobals "_law_raised" = some (some (.ref f26)))
    (l26 : K.lookup f26 = some ⟨oc26, od26, .func (PySem.W.fnOf "_law_raised" "_law_raised" (defArgs s__law_raised) (defBody s__law_raised) (defScope s__law_raised) .none kV26 dc26 pm26 an26 cd26 ct26), sl26⟩) (c26 : PySem.W.codeIn K cd26 "_law_raised" = true) (k26 : PySem.W.keepIn K (.ref f26) = true)
    (a27 : PySem.W.nsIn K mainGlobals "_law_product" = some (some (.ref f27)))
    (l27 : K.lookup f27 = some ⟨oc27, od27, .func (PySem.W.fnOf "_law_product" "_law_product" (defArgs s__law_product) (defBody s__law_product) (defScope s__law_product) .none kV27 dc27 pm27 an27 cd27 ct27), sl27⟩) (c27 : PySem.W.codeIn K cd27 "_law_product" = true) (k27 : PySem.W.keepIn K (.ref f27) = true)
    (a28 : PySem.W.nsIn K mainGlobals "_law_commit" = some (some (.ref f28)))
    (l28 : K.lookup f28 = some ⟨oc28, od28, .func (PySem.W.fnOf "_law_commit" "_law_commit" (defArgs s__law_commit) (defBody s__law_commit) (defScope s__law_commit) .none kV28 dc28 pm28 an28 cd28 ct28), sl28⟩) (c28 : PySem.W.codeIn K cd28 "_law_commit" = true) (k28 : PySem.W.keepIn K (.ref f28) = true)
    (a29 : PySem.W.nsIn K mainGlobals "_law_group" = some (some (.ref f29)))
    (l29 : K.lookup f29 = some ⟨oc29, od29, .func (PySem.W.fnOf "_law_group" "_law_group" (defArgs s__law_group) (defBody s__law_group) (defScope s__law_group) .none kV29 dc29 pm29 an29 cd29 ct29), sl29⟩) (c29 : PySem.W.codeIn K cd29 "_law_group" = true) (k29 : PySem.W.keepIn K (.ref f29) = true)
    (a30 : PySem.W.nsIn K mainGlobals "_law_numbers" = some (some (.ref f30)))
    (l30 : K.lookup f30 = some ⟨oc30, od30, .func (PySem.W.fnOf "_law_numbers" "_law_numbers" (defArgs s__law_numbers) (defBody s__law_numbers) (defScope s__law_numbers) .none kV30 dc30 pm30 an30 cd30 ct30), sl30⟩) (c30 : PySem.W.codeIn K cd30 "_law_numbers" = true) (k30 : PySem.W.keepIn K (.ref f30) = true)
    (a31 : PySem.W.nsIn K mainGlobals "_law_kinds" = some (some (.ref f31)))
    (l31 : K.lookup f31 = some ⟨oc31, od31, .func (PySem.W.fnOf "_law_kinds" "_law_kinds" (defArgs s__law_kinds) (defBody s__law_kinds) (defScope s__law_kinds) .none kV31 dc31 pm31 an31 cd31 ct31), sl31⟩) (c31 : PySem.W.codeIn K cd31 "_law_kinds" = true) (k31 : PySem.W.keepIn K (.ref f31) = true)
    (a32 : PySem.W.nsIn K mainGlobals "_law_rows" = some (some (.ref f32)))
    (l32 : K.lookup f32 = some ⟨oc32, od32, .func (PySem.W.fnOf "_law_rows" "_law_rows" (defArgs s__law_rows) (defBody s__law_rows) (defScope s__law_rows) .none kV32 dc32 pm32 an32 cd32 ct32), sl32⟩) (c32 : PySem.W.codeIn K cd32 "_law_rows" = true) (k32 : PySem.W.keepIn K (.ref f32) = true)
    (a33 : PySem.W.nsIn K mainGlobals "_law_fields" = some (some (.ref f33)))
    (l33 : K.lookup f33 = some ⟨oc33, od33, .func (PySem.W.fnOf "_law_fields" "_law_fields" (defArgs s__law_fields) (defBody s__law_fields) (defScope s__law_fields) .none kV33 dc33 pm33 an33 cd33 ct33), sl33⟩) (c33 : PySem.W.codeIn K cd33 "_law_fields" = true) (k33 : PySem.W.keepIn K (.ref f33) = true)
    (a34 : PySem.W.nsIn K mainGlobals "_law_condition" = some (some (.ref f34)))
    (l34 : K.lookup f34 = some ⟨oc34, od34, .func (PySem.W.fnOf "_law_condition" "_law_condition" (defArgs s__law_condition) (defBody s__law_condition) (defScope s__law_condition) .none kV34 dc34 pm34 an34 cd34 ct34), sl34⟩) (c34 : PySem.W.codeIn K cd34 "_law_condition" = true) (k34 : PySem.W.keepIn K (.ref f34) = true)
    (a35 : PySem.W.nsIn K mainGlobals "_law_scene" = some (some (.ref f35)))
    (l35 : K.lookup f35 = some ⟨oc35, od35, .func (PySem.W.fnOf "_law_scene" "_law_scene" (defArgs s__law_scene) (defBody s__law_scene) (defScope s__law_scene) .none kV35 dc35 pm35 an35 cd35 ct35), sl35⟩) (c35 : PySem.W.codeIn K cd35 "_law_scene" = true) (k35 : PySem.W.keepIn K (.ref f35) = true)
    (a36 : PySem.W.nsIn K mainGlobals "_law_question" = some (some (.ref f36)))
    (l36 : K.lookup f36 = some ⟨oc36, od36, .func (PySem.W.fnOf "_law_question" "_law_question" (defArgs s__law_question) (defBody s__law_question) (defScope s__law_question) .none kV36 dc36 pm36 an36 cd36 ct36), sl36⟩) (c36 : PySem.W.codeIn K cd36 "_law_question" = true) (k36 : PySem.W.keepIn K (.ref f36) = true)
    (a37 : PySem.W.nsIn K mainGlobals "_law_place" = some (some (.ref f37)))
    (l37 : K.lookup f37 = some ⟨oc37, od37, .func (PySem.W.fnOf "_law_place" "_law_place" (defArgs s__law_place) (defBody s__law_place) (defScope s__law_place) .none kV37 dc37 pm37 an37 cd37 ct37), sl37⟩) (c37 : PySem.W.codeIn K cd37 "_law_place" = true) (k37 : PySem.W.keepIn K (.ref f37) = true)
    (a38 : PySem.W.nsIn K mainGlobals "_law_sizes" = some (some (.ref f38)))
    (l38 : K.lookup f38 = some ⟨oc38, od38, .func (PySem.W.fnOf "_law_sizes" "_law_sizes" (defArgs s__law_sizes) (defBody s__law_sizes) (defScope s__law_sizes) .none kV38 dc38 pm38 an38 cd38 ct38), sl38⟩) (c38 : PySem.W.codeIn K cd38 "_law_sizes" = true) (k38 : PySem.W.keepIn K (.ref f38) = true)
    (a39 : PySem.W.nsIn K mainGlobals "_law_allowed" = some (some (.ref f39)))
    (l39 : K.lookup f39 = some ⟨oc39, od39, .func (PySem.W.fnOf "_law_allowed" "_law_allowed" (defArgs s__law_allowed) (defBody s__law_allowed) (defScope s__law_allowed) .none kV39 dc39 pm39 an39 cd39 ct39), sl39⟩) (c39 : PySem.W.codeIn K cd39 "_law_allowed" = true) (k39 : PySem.W.keepIn K (.ref f39) = true)
    (a40 : PySem.W.nsIn K mainGlobals "_law_answers" = some (some (.ref f40)))
    (l40 : K.lookup f40 = some ⟨oc40, od40, .func (PySem.W.fnOf "_law_answers" "_law_answers" (defArgs s__law_answers) (defBody s__law_answers) (defScope s__law_answers) .none kV40 dc40 pm40 an40 cd40 ct40), sl40⟩) (c40 : PySem.W.codeIn K cd40 "_law_answers" = true) (k40 : PySem.W.keepIn K (.ref f40) = true)
    (a41 : PySem.W.nsIn K mainGlobals "_law_holdings" = some (some (.ref f41)))
    (l41 : K.lookup f41 = some ⟨oc41, od41, .func (PySem.W.fnOf "_law_holdings" "_law_holdings" (defArgs s__law_holdings) (defBody s__law_holdings) (defScope s__law_holdings) .none kV41 dc41 pm41 an41 cd41 ct41), sl41⟩) (c41 : PySem.W.codeIn K cd41 "_law_holdings" = true) (k41 : PySem.W.keepIn K (.ref f41) = true)
    (a42 : PySem.W.nsIn K mainGlobals "_law_first" = some (some (.ref f42)))
    (l42 : K.lookup f42 = some ⟨oc42, od42, .func (PySem.W.fnOf "_law_first" "_law_first" (defArgs s__law_first) (defBody s__law_first) (defScope s__law_first) .none kV42 dc42 pm42 an42 cd42 ct42), sl42⟩) (c42 : PySem.W.codeIn K cd42 "_law_first" = true) (k42 : PySem.W.keepIn K (.ref f42) = true)
    (a43 : PySem.W.nsIn K mainGlobals "law" = some (some (.ref f43)))
    (l43 : K.lookup f43 = some ⟨oc43, od43, .func (PySem.W.fnOf "law" "law" (defArgs s_law) (defBody s_law) (defScope s_law) .none kV43 dc43 pm43 an43 cd43 ct43), sl43⟩) (c43 : PySem.W.codeIn K cd43 "law" = true) (k43 : PySem.W.keepIn K (.ref f43) = true)
    (z_isinstance : PySem.W.nsIn K mainGlobals "isinstance" = some none)
    (z_len : PySem.W.nsIn K mainGlobals "len" = some none)
    (z_sum : PySem.W.nsIn K mainGlobals "sum" = some none)
    (z_max : PySem.W.nsIn K mainGlobals "max" = some none)
    (z_min : PySem.W.nsIn K mainGlobals "min" = some none)
    (z_abs : PySem.W.nsIn K mainGlobals "abs" = some none)
    (z_any : PySem.W.nsIn K mainGlobals "any" = some none)
    (z_all : PySem.W.nsIn K mainGlobals "all" = some none)
    (z_sorted : PySem.W.nsIn K mainGlobals "sorted" = some none)
    (z_int : PySem.W.nsIn K mainGlobals "int" = some none)
    (z_bool : PySem.W.nsIn K mainGlobals "bool" = some none)
    (z_str : PySem.W.nsIn K mainGlobals "str" = some none)
    (z_list : PySem.W.nsIn K mainGlobals "list" = some none)
    (z_tuple : PySem.W.nsIn K mainGlobals "tuple" = some none)
    (z_dict : PySem.W.nsIn K mainGlobals "dict" = some none)
    (z_range : PySem.W.nsIn K mainGlobals "range" = some none)
    (z_enumerate : PySem.W.nsIn K mainGlobals "enumerate" = some none)
    (z_zip : PySem.W.nsIn K mainGlobals "zip" = some none) :
    ∃ fd : FuncData, (∀ (s : Shared) (v : Value), BindsTo s fd ⟨[v], []⟩ [("script", v)]) ∧ ∀ base : Heap, K.In base → base.Ns mainGlobals mg → FnOk l.prog w K mg base CX0 15 fa fd ["script"] (spLaw K) := by
  have e := hfa.symm.trans (PySem.W.mg_of X G a43)
  cases e
  have B : Blt mg := ⟨PySem.W.mg_none_of X G z_isinstance, PySem.W.mg_none_of X G z_len, PySem.W.mg_none_of X G z_sum, PySem.W.mg_none_of X G z_max, PySem.W.mg_none_of X G z_min, PySem.W.mg_none_of X G z_abs, PySem.W.mg_none_of X G z_any, PySem.W.mg_none_of X G z_all, PySem.W.mg_none_of X G z_sorted, PySem.W.mg_none_of X G z_int, PySem.W.mg_none_of X G z_bool, PySem.W.mg_none_of X G z_str, PySem.W.mg_none_of X G z_list, PySem.W.mg_none_of X G z_tuple, PySem.W.mg_none_of X G z_dict, PySem.W.mg_none_of X G z_range, PySem.W.mg_none_of X G z_enumerate, PySem.W.mg_none_of X G z_zip⟩
  have F0 := fun_mk (st := s_power) l0 c0 k0
  have b0 := F0.binds (ps := ["base", "exponent", "modulus"]) fun _ _ _ _ _ _ us hl => match us, hl with | [_, _, _], _ => rfl
  have m0 := PySem.W.mg_of X G a0
  have F1 := fun_mk (st := s_is_prime) l1 c1 k1
  have b1 := F1.binds (ps := ["number"]) fun _ _ _ _ _ _ us hl => match us, hl with | [_], _ => rfl
  have m1 := PySem.W.mg_of X G a1
  have F2 := fun_mk (st := s__is_root) l2 c2 k2
  have b2 := F2.binds (ps := ["p", "q", "number"]) fun _ _ _ _ _ _ us hl => match us, hl with | [_, _, _], _ => rfl
  have m2 := PySem.W.mg_of X G a2
  have F3 := fun_mk (st := s__check_primes) l3 c3 k3
  have b3 := F3.binds (ps := ["p", "q"]) fun _ _ _ _ _ _ us hl => match us, hl with | [_, _], _ => rfl
  have m3 := PySem.W.mg_of X G a3
  have F4 := fun_mk (st := s__check_bases) l4 c4 k4
  have b4 := F4.binds (ps := ["p", "q", "bases"]) fun _ _ _ _ _ _ us hl => match us, hl with | [_, _, _], _ => rfl
  have m4 := PySem.W.mg_of X G a4
  have F5 := fun_mk (st := s_Group___init__) l5 c5 k5
  have b5 := F5.binds (ps := ["self", "p", "q", "bases"]) fun _ _ _ _ _ _ us hl => match us, hl with | [_, _, _, _], _ => rfl
  have F6 := fun_mk (st := s_Kind___init__) l6 c6 k6
  have b6 := F6.binds (ps := ["self", "name", "fields"]) fun _ _ _ _ _ _ us hl => match us, hl with | [_, _, _], _ => rfl
  have F7 := fun_mk (st := s__kept) l7 c7 k7
  have b7 := F7.binds (ps := ["condition"]) fun _ _ _ _ _ _ us hl => match us, hl with | [_], _ => rfl
  have m7 := PySem.W.mg_of X G a7
  have F8 := fun_mk (st := s_Policy___init__) l8 c8 k8
  have b8 := F8.binds (ps := ["self", "cards", "conditions"]) fun _ _ _ _ _ _ us hl => match us, hl with | [_, _, _], _ => rfl
  have F9 := fun_mk (st := s_Question___init__) l9 c9 k9
  have b9 := F9.binds (ps := ["self", "group", "kinds", "policy", "rows"]) fun _ _ _ _ _ _ us hl => match us, hl with | [_, _, _, _, _], _ => rfl
  have F10 := fun_mk (st := s_Pick___init__) l10 c10 k10
  have b10 := F10.binds (ps := ["self", "row", "randomness", "numbers"]) fun _ _ _ _ _ _ us hl => match us, hl with | [_, _, _, _], _ => rfl
  have F11 := fun_mk (st := s_fields_of) l11 c11 k11
  have b11 := F11.binds (ps := ["question", "card"]) fun _ _ _ _ _ _ us hl => match us, hl with | [_, _], _ => rfl
  have m11 := PySem.W.mg_of X G a11
  have F12 := fun_mk (st := s__place_named) l12 c12 k12
  have b12 := F12.binds (ps := ["question", "card", "field"]) fun _ _ _ _ _ _ us hl => match us, hl with | [_, _, _], _ => rfl
  have m12 := PySem.W.mg_of X G a12
  have F13 := fun_mk (st := s_conditions_of) l13 c13 k13
  have b13 := F13.binds (ps := ["question"]) fun _ _ _ _ _ _ us hl => match us, hl with | [_], _ => rfl
  have m13 := PySem.W.mg_of X G a13
  have F14 := fun_mk (st := s__lets) l14 c14 k14
  have b14 := F14.binds (ps := ["word", "rest", "number"]) fun _ _ _ _ _ _ us hl => match us, hl with | [_, _, _], _ => rfl
  have m14 := PySem.W.mg_of X G a14
  have F15 := fun_mk (st := s_meet_conditions) l15 c15 k15
  have b15 := F15.binds (ps := ["question", "numbers"]) fun _ _ _ _ _ _ us hl => match us, hl with | [_, _], _ => rfl
  have m15 := PySem.W.mg_of X G a15
  have F16 := fun_mk (st := s_answers) l16 c16 k16
  have b16 := F16.binds (ps := ["question", "picks"]) fun _ _ _ _ _ _ us hl => match us, hl with | [_, _], _ => rfl
  have m16 := PySem.W.mg_of X G a16
  have F17 := fun_mk (st := s__first_answer) l17 c17 k17
  have b17 := F17.binds (ps := ["question", "candidates", "chosen"]) fun _ _ _ _ _ _ us hl => match us, hl with | [_, _, _], _ => rfl
  have m17 := PySem.W.mg_of X G a17
  have F18 := fun_mk (st := s_Wallet__candidates) l18 c18 k18
  have b18 := F18.binds (ps := ["self", "question", "card"]) fun _ _ _ _ _ _ us hl => match us, hl with | [_, _, _], _ => rfl
  have F19 := fun_mk (st := s_Wallet_picks) l19 c19 k19
  have b19 := F19.binds (ps := ["self", "question"]) fun _ _ _ _ _ _ us hl => match us, hl with | [_, _], _ => rfl
  have F20 := fun_mk (st := s_Wallet___init__) l20 c20 k20
  have b20 := F20.binds (ps := ["self", "group", "secret"]) fun _ _ _ _ _ _ us hl => match us, hl with | [_, _, _], _ => rfl
  have F21 := fun_mk (st := s_Wallet_keep) l21 c21 k21
  have b21 := F21.binds (ps := ["self", "issuer", "index", "kind", "randomness", "values"]) fun _ _ _ _ _ _ us hl => match us, hl with | [_, _, _, _, _, _], _ => rfl
  have F22 := fun_mk (st := s__law_pool) l22 c22 k22
  have b22 := F22.binds (ps := ["script", "budget"]) fun _ _ _ _ _ _ us hl => match us, hl with | [_, _], _ => rfl
  have m22 := PySem.W.mg_of X G a22
  have F23 := fun_mk (st := s__law_draw) l23 c23 k23
  have b23 := F23.binds (ps := ["pool", "size"]) fun _ _ _ _ _ _ us hl => match us, hl with | [_, _], _ => rfl
  have m23 := PySem.W.mg_of X G a23
  have F24 := fun_mk (st := s__law_same) l24 c24 k24
  have b24 := F24.binds (ps := ["actual", "due"]) fun _ _ _ _ _ _ us hl => match us, hl with | [_, _], _ => rfl
  have m24 := PySem.W.mg_of X G a24
  have F25 := fun_mk (st := s__law_power) l25 c25 k25
  have b25 := F25.binds (ps := ["base", "exponent", "modulus"]) fun _ _ _ _ _ _ us hl => match us, hl with | [_, _, _], _ => rfl
  have m25 := PySem.W.mg_of X G a25
  have F26 := fun_mk (st := s__law_raised) l26 c26 k26
  have b26 := F26.binds (ps := ["group", "element", "exponent"]) fun _ _ _ _ _ _ us hl => match us, hl with | [_, _, _], _ => rfl
  have m26 := PySem.W.mg_of X G a26
  have F27 := fun_mk (st := s__law_product) l27 c27 k27
  have b27 := F27.binds (ps := ["group", "pairs"]) fun _ _ _ _ _ _ us hl => match us, hl with | [_, _], _ => rfl
  have m27 := PySem.W.mg_of X G a27
  have F28 := fun_mk (st := s__law_commit) l28 c28 k28
  have b28 := F28.binds (ps := ["group", "exponents"]) fun _ _ _ _ _ _ us hl => match us, hl with | [_, _], _ => rfl
  have m28 := PySem.W.mg_of X G a28
  have F29 := fun_mk (st := s__law_group) l29 c29 k29
  have b29 := F29.binds (ps := ["pool", "count", "least"]) fun _ _ _ _ _ _ us hl => match us, hl with | [_, _, _], _ => rfl
  have m29 := PySem.W.mg_of X G a29
  have F30 := fun_mk (st := s__law_numbers) l30 c30 k30
  have b30 := F30.binds (ps := ["pool", "group", "count"]) fun _ _ _ _ _ _ us hl => match us, hl with | [_, _, _], _ => rfl
  have m30 := PySem.W.mg_of X G a30
  have F31 := fun_mk (st := s__law_kinds) l31 c31 k31
  have b31 := F31.binds (ps := ["pool", "most"]) fun _ _ _ _ _ _ us hl => match us, hl with | [_, _], _ => rfl
  have m31 := PySem.W.mg_of X G a31
  have F32 := fun_mk (st := s__law_rows) l32 c32 k32
  have b32 := F32.binds (ps := ["pool", "scene", "fields", "issuers"]) fun _ _ _ _ _ _ us hl => match us, hl with | [_, _, _, _], _ => rfl
  have m32 := PySem.W.mg_of X G a32
  have F33 := fun_mk (st := s__law_fields) l33 c33 k33
  have b33 := F33.binds (ps := ["scene"]) fun _ _ _ _ _ _ us hl => match us, hl with | [_], _ => rfl
  have m33 := PySem.W.mg_of X G a33
  have F34 := fun_mk (st := s__law_condition) l34 c34 k34
  have b34 := F34.binds (ps := ["pool", "scene"]) fun _ _ _ _ _ _ us hl => match us, hl with | [_, _], _ => rfl
  have m34 := PySem.W.mg_of X G a34
  have F35 := fun_mk (st := s__law_scene) l35 c35 k35
  have b35 := F35.binds (ps := ["pool", "cards", "most"]) fun _ _ _ _ _ _ us hl => match us, hl with | [_, _, _], _ => rfl
  have m35 := PySem.W.mg_of X G a35
  have F36 := fun_mk (st := s__law_question) l36 c36 k36
  have b36 := F36.binds (ps := ["scene"]) fun _ _ _ _ _ _ us hl => match us, hl with | [_], _ => rfl
  have m36 := PySem.W.mg_of X G a36
  have F37 := fun_mk (st := s__law_place) l37 c37 k37
  have b37 := F37.binds (ps := ["scene", "names"]) fun _ _ _ _ _ _ us hl => match us, hl with | [_, _], _ => rfl
  have m37 := PySem.W.mg_of X G a37
  have F38 := fun_mk (st := s__law_sizes) l38 c38 k38
  have b38 := F38.binds (ps := ["scene"]) fun _ _ _ _ _ _ us hl => match us, hl with | [_], _ => rfl
  have m38 := PySem.W.mg_of X G a38
  have F39 := fun_mk (st := s__law_allowed) l39 c39 k39
  have b39 := F39.binds (ps := ["scene", "row"]) fun _ _ _ _ _ _ us hl => match us, hl with | [_, _], _ => rfl
  have m39 := PySem.W.mg_of X G a39
  have F40 := fun_mk (st := s__law_answers) l40 c40 k40
  have b40 := F40.binds (ps := ["scene", "picks"]) fun _ _ _ _ _ _ us hl => match us, hl with | [_, _], _ => rfl
  have m40 := PySem.W.mg_of X G a40
  have F41 := fun_mk (st := s__law_holdings) l41 c41 k41
  have b41 := F41.binds (ps := ["pool", "scene", "side"]) fun _ _ _ _ _ _ us hl => match us, hl with | [_, _, _], _ => rfl
  have m41 := PySem.W.mg_of X G a41
  have F42 := fun_mk (st := s__law_first) l42 c42 k42
  have b42 := F42.binds (ps := ["scene", "holdings"]) fun _ _ _ _ _ _ us hl => match us, hl with | [_, _], _ => rfl
  have m42 := PySem.W.mg_of X G a42
  have F43 := fun_mk (st := s_law) l43 c43 k43
  have b43 := F43.binds (ps := ["script"]) fun _ _ _ _ _ _ us hl => match us, hl with | [_], _ => rfl
  have m43 := PySem.W.mg_of X G a43
  refine ⟨PySem.W.fnOf "law" "law" (defArgs s_law) (defBody s_law) (defScope s_law) .none kV43 dc43 pm43 an43 cd43 ct43, fun s v => .of_eq rfl, fun base _ _ => ?_⟩
  have cls_C0 : Cls K C0 := ⟨pg_C0, hd_C0, po_C0, sa_C0⟩
  have cls_C3 : Cls K C3 := ⟨pg_C3, hd_C3, po_C3, sa_C3⟩
  have cls_C6 : Cls K C6 := ⟨pg_C6, hd_C6, po_C6, sa_C6⟩
  have cls_C7 : Cls K C7 := ⟨pg_C7, hd_C7, po_C7, sa_C7⟩
  have cls_CPl : Cls K CPl := ⟨pg_CPl, hd_CPl, po_CPl, sa_CPl⟩
  have cls_CQn : Cls K CQn := ⟨pg_CQn, hd_CQn, po_CQn, sa_CQn⟩
  have T0 : GT K C0 := ⟨cls_C0, nC0p, nC0q, nC0bases⟩
  have T3 : KdT K C3 := ⟨cls_C3, nC3name, nC3fields⟩
  have T6 : WlT K C6 := ⟨cls_C6, nC6group, nC6secret, nC6holdings⟩
  have T7 : PkT K C7 := ⟨cls_C7, nC7row, nC7randomness, nC7numbers⟩
  have T8 : PoT K CPl := ⟨cls_CPl, nCPlcards, nCPlconditions⟩
  have T9 : QuT K CQn := ⟨cls_CQn, nCQngroup, nCQnkinds, nCQnpolicy, nCQnrows⟩
  have gl : Glb mg := ⟨⟨_, PySem.W.mg_of X G gS⟩, ⟨_, PySem.W.mg_of X G gL⟩, ⟨_, PySem.W.mg_of X G gF⟩, ⟨_, PySem.W.mg_of X G gM⟩⟩
  have C_power : C8.Cal l.prog w K mg base 1 "power" spPower [] := ⟨⟨_, _, _, [], ok_power F0 , m0, k0, b0, .nil⟩⟩
  have C_is_prime : C8.Cal l.prog w K mg base 1 "is_prime" spIsPrime [] := ⟨⟨_, _, _, [], ok_is_prime F1 , m1, k1, b1, .nil⟩⟩
  have C__is_root : C8.Cal l.prog w K mg base 2 "_is_root" spRoot [] := ⟨⟨_, _, _, [], ok_is_root F2 C_power, m2, k2, b2, .nil⟩⟩
  have C__check_primes : C8.Cal l.prog w K mg base 2 "_check_primes" spCheckPrimes [] := ⟨⟨_, _, _, [], ok_check_primes F3 gl C_is_prime, m3, k3, b3, .nil⟩⟩
  have D_primes : C8.Cal l.prog w K mg base 2 "_check_primes" (toSp K (caV C0 C3 C6 C7 CPl CQn) aspCheckPrimes) [] := cal_weak sp_check_primes C__check_primes
  have C__check_bases : C8.Cal l.prog w K mg base 3 "_check_bases" (spCheckBases K) [] := ⟨⟨_, _, _, [], ok_check_bases F4 gl B C__is_root, m4, k4, b4, .nil⟩⟩
  have D_bases : C8.Cal l.prog w K mg base 3 "_check_bases" (toSp K (caV C0 C3 C6 C7 CPl CQn) aspCheckBases) [] := cal_weak sp_check_bases C__check_bases
  have K_Group : C8.Mak l.prog w K mg base 4 "Group" C0 (toSpI K (caV C0 C3 C6 C7 CPl CQn) 0 aspGroupI) [] := ⟨⟨f5, _, _, [], ⟨mk_C0, a5, i5, kc_C0⟩, ok_group_init F5 T0 B D_primes D_bases, PySem.W.mg_of X G a_C0, b5, .nil⟩⟩
  have K_Kind : C8.Mak l.prog w K mg base 1 "Kind" C3 (toSpI K (caV C0 C3 C6 C7 CPl CQn) 3 aspKdI) [] := ⟨⟨f6, _, _, [], ⟨mk_C3, a6, i6, kc_C3⟩, ok_kd_init F6 T3 B, PySem.W.mg_of X G a_C3, b6, .nil⟩⟩
  have C__kept : C8.Cal l.prog w K mg base 1 "_kept" (toSp K (caV C0 C3 C6 C7 CPl CQn) aspKeptP) [] := ⟨⟨_, _, _, [], ok_kept_p F7 B, m7, k7, b7, .nil⟩⟩
  have K_Policy : C8.Mak l.prog w K mg base 2 "Policy" CPl (toSpI K (caV C0 C3 C6 C7 CPl CQn) 8 aspPolI2) [] := ⟨⟨f8, _, _, [], ⟨mk_CPl, a8, i8, kc_CPl⟩, ok_pol_init2 F8 T8 B C__kept, PySem.W.mg_of X G a_CPl, b8, .nil⟩⟩
  have K_Question : C8.Mak l.prog w K mg base 1 "Question" CQn (toSpI K (caV C0 C3 C6 C7 CPl CQn) 9 aspQuT) [] := ⟨⟨f9, _, _, [], ⟨mk_CQn, a9, i9, kc_CQn⟩, ok_qu_initT F9 T9 B, PySem.W.mg_of X G a_CQn, b9, .nil⟩⟩
  have K_Pick : C8.Mak l.prog w K mg base 1 "Pick" C7 (toSpI K (caV C0 C3 C6 C7 CPl CQn) 7 aspPkI) [] := ⟨⟨f10, _, _, [], ⟨mk_C7, a10, i10, kc_C7⟩, ok_pk_init F10 T7 B, PySem.W.mg_of X G a_C7, b10, .nil⟩⟩
  have C_fields_of : C8.Cal l.prog w K mg base 1 "fields_of" (toSp K (caV C0 C3 C6 C7 CPl CQn) aspFO) [] := ⟨⟨_, _, _, [], ok_fields_of F11 T3 T8 T9 B, m11, k11, b11, .nil⟩⟩
  have C__place_named : C8.Cal l.prog w K mg base 2 "_place_named" (toSp K (caV C0 C3 C6 C7 CPl CQn) aspPN) [] := ⟨⟨_, _, _, [], ok_place_named F12 T8 T9 B C_fields_of, m12, k12, b12, .nil⟩⟩
  have C_conditions_of : C8.Cal l.prog w K mg base 3 "conditions_of" (toSp K (caV C0 C3 C6 C7 CPl CQn) aspCO) [] := ⟨⟨_, _, _, [], ok_conditions_of F13 T8 T9 B C__place_named, m13, k13, b13, .nil⟩⟩
  have C__lets : C8.Cal l.prog w K mg base 1 "_lets" (toSp K (caV C0 C3 C6 C7 CPl CQn) aspLets) [] := ⟨⟨_, _, _, [], ok_lets F14 , m14, k14, b14, .nil⟩⟩
  have C_meet_conditions : C8.Cal l.prog w K mg base 4 "meet_conditions" (toSp K (caV C0 C3 C6 C7 CPl CQn) aspMC) [] := ⟨⟨_, _, _, [], ok_meet F15 C_conditions_of C__lets, m15, k15, b15, .nil⟩⟩
  have C_answers : C8.Cal l.prog w K mg base 5 "answers" (toSp K (caV C0 C3 C6 C7 CPl CQn) aspAnw) [] := ⟨⟨_, _, _, [], ok_answers F16 T7 B C_meet_conditions, m16, k16, b16, .nil⟩⟩
  have C__first_answer : C8.Cal l.prog w K mg base 9 "_first_answer" (toSp K (caV C0 C3 C6 C7 CPl CQn) (aspFA 4)) [] := ⟨⟨_, _, _, [], ok_fa (ca := (caV C0 C3 C6 C7 CPl CQn)) F17 B C_answers m17 b17 4, m17, k17, b17, .nil⟩⟩
  have M__candidates : C8.Met l.prog w K mg base 3 C6 "_candidates" (toSp K (caV C0 C3 C6 C7 CPl CQn) aspCnds) [] := ⟨⟨f18, _, _, [], cls_C6, ⟨a18, i18, k18⟩, ok_cnds F18 T6 T8 T9 B K_Pick, b18, .nil⟩⟩
  have M_picks : C8.Met l.prog w K mg base 10 C6 "picks" (toSp K (caV C0 C3 C6 C7 CPl CQn) aspPicks) [] := ⟨⟨f19, _, _, [], cls_C6, ⟨a19, i19, k19⟩, ok_picks F19 T8 T9 B M__candidates C__first_answer, b19, .nil⟩⟩
  have MX_Wallet : MakX l.prog w K mg base 1 "Wallet" C6 (toSpI2 K (caV C0 C3 C6 C7 CPl CQn) 6 bspWalI) := ⟨⟨_, _, _, ⟨mk_C6, a20, i20, kc_C6⟩, ok_wal_init (ca := (caV C0 C3 C6 C7 CPl CQn)) F20 T6 B, PySem.W.mg_of X G a_C6, b20⟩⟩
  have M_keep : C8.Met l.prog w K mg base 1 C6 "keep" (toSp2 K (caV C0 C3 C6 C7 CPl CQn) bspKeep) [] := ⟨⟨f21, _, _, [], cls_C6, ⟨a21, i21, k21⟩, ok_keep F21 T6 B, b21, .nil⟩⟩
  have C__law_pool : C8.Cal l.prog w K mg base 1 "_law_pool" (spPool K) [] := ⟨⟨_, _, _, [], ok_law_pool F22 B, m22, k22, b22, .nil⟩⟩
  have C__law_draw : C8.Cal l.prog w K mg base 1 "_law_draw" spDrawP [] := ⟨⟨_, _, _, [], ok_law_drawP F23 B, m23, k23, b23, .nil⟩⟩
  have D_draw : C8.Cal l.prog w K mg base 1 "_law_draw" (toSp K (caV C0 C3 C6 C7 CPl CQn) aspDraw) [] := cal_weak sp_draw C__law_draw
  have C__law_same : C8.Cal l.prog w K mg base 14 "_law_same" (toSp K (caV C0 C3 C6 C7 CPl CQn) (aspSame 14)) [] := ⟨⟨_, _, _, [], ok_law_same F24 B m24 b24 14, m24, k24, b24, .nil⟩⟩
  have C__law_power : C8.Cal l.prog w K mg base 1 "_law_power" spLPower [] := ⟨⟨_, _, _, [], ok_law_power F25 B, m25, k25, b25, .nil⟩⟩
  have D_lpower : C8.Cal l.prog w K mg base 1 "_law_power" (toSp K (caV C0 C3 C6 C7 CPl CQn) aspLPower) [] := cal_weak sp_lpower C__law_power
  have C__law_raised : C8.Cal l.prog w K mg base 2 "_law_raised" (toSp K (caV C0 C3 C6 C7 CPl CQn) aspLRaised) [] := ⟨⟨_, _, _, [], ok_law_raised F26 B D_lpower, m26, k26, b26, .nil⟩⟩
  have C__law_product : C8.Cal l.prog w K mg base 3 "_law_product" (toSp K (caV C0 C3 C6 C7 CPl CQn) aspLProduct) [] := ⟨⟨_, _, _, [], ok_law_product F27 B C__law_raised, m27, k27, b27, .nil⟩⟩
  have C__law_commit : C8.Cal l.prog w K mg base 4 "_law_commit" (toSp K (caV C0 C3 C6 C7 CPl CQn) aspLCommit) [] := ⟨⟨_, _, _, [], ok_law_commit F28 B C__law_product, m28, k28, b28, .nil⟩⟩
  have C__law_group : C8.Cal l.prog w K mg base 2 "_law_group" (toSp K (caV C0 C3 C6 C7 CPl CQn) aspLGroup) [] := ⟨⟨_, _, _, [], ok_law_group F29 B D_draw D_lpower, m29, k29, b29, .nil⟩⟩
  have C__law_numbers : C8.Cal l.prog w K mg base 2 "_law_numbers" (toSp K (caV C0 C3 C6 C7 CPl CQn) aspLNumbers) [] := ⟨⟨_, _, _, [], ok_law_numbers F30 B D_draw, m30, k30, b30, .nil⟩⟩
  have C__law_kinds : C8.Cal l.prog w K mg base 2 "_law_kinds" (toSp K (caV C0 C3 C6 C7 CPl CQn) aspLKindsM) [] := ⟨⟨_, _, _, [], ok_law_kindsM F31 B D_draw, m31, k31, b31, .nil⟩⟩
  have C__law_rows : C8.Cal l.prog w K mg base 5 "_law_rows" (toSp2 K (caV C0 C3 C6 C7 CPl CQn) bspLRows) [] := ⟨⟨_, _, _, [], ok_law_rows F32 B D_draw C__law_numbers C__law_commit, m32, k32, b32, .nil⟩⟩
  have C__law_fields : C8.Cal l.prog w K mg base 5 "_law_fields" (toSp2 K (caV C0 C3 C6 C7 CPl CQn) bspLFields) [] := ⟨⟨_, _, _, [], ok_law_fields F33 B, m33, k33, b33, .nil⟩⟩
  have C__law_condition : C8.Cal l.prog w K mg base 7 "_law_condition" (toSp2 K (caV C0 C3 C6 C7 CPl CQn) bspLCond) [] := ⟨⟨_, _, _, [], ok_law_condition F34 B D_draw C__law_fields, m34, k34, b34, .nil⟩⟩
  have C__law_scene : C8.Cal l.prog w K mg base 9 "_law_scene" (toSp K (caV C0 C3 C6 C7 CPl CQn) aspLScene) [] := ⟨⟨_, _, _, [], ok_law_scene F35 B D_draw C__law_numbers C__law_group C__law_kinds C__law_rows C__law_condition, m35, k35, b35, .nil⟩⟩
  have C__law_question : C8.Cal l.prog w K mg base 6 "_law_question" (toSp K (caV C0 C3 C6 C7 CPl CQn) aspLQu) [] := ⟨⟨_, _, _, [], ok_law_question F36 B K_Kind K_Policy K_Question K_Group, m36, k36, b36, .nil⟩⟩
  have C__law_place : C8.Cal l.prog w K mg base 1 "_law_place" (toSp K (caV C0 C3 C6 C7 CPl CQn) aspLPlace) [] := ⟨⟨_, _, _, [], ok_law_place F37 B, m37, k37, b37, .nil⟩⟩
  have C__law_sizes : C8.Cal l.prog w K mg base 1 "_law_sizes" (toSp K (caV C0 C3 C6 C7 CPl CQn) aspLSizes) [] := ⟨⟨_, _, _, [], ok_law_sizes F38 B, m38, k38, b38, .nil⟩⟩
  have C__law_allowed : C8.Cal l.prog w K mg base 2 "_law_allowed" (toSp K (caV C0 C3 C6 C7 CPl CQn) aspLAlw) [] := ⟨⟨_, _, _, [], ok_law_allowed F39 B C__law_sizes C__law_place, m39, k39, b39, .nil⟩⟩
  have C__law_answers : C8.Cal l.prog w K mg base 3 "_law_answers" (toSp K (caV C0 C3 C6 C7 CPl CQn) aspLAns) [] := ⟨⟨_, _, _, [], ok_law_answers F40 C__law_allowed C__law_place, m40, k40, b40, .nil⟩⟩
  have C__law_holdings : C8.Cal l.prog w K mg base 2 "_law_holdings" (toSp K (caV C0 C3 C6 C7 CPl CQn) aspLHold) [] := ⟨⟨_, _, _, [], ok_law_holdings F41 B D_draw, m41, k41, b41, .nil⟩⟩
  have C__law_first : C8.Cal l.prog w K mg base 4 "_law_first" (toSp K (caV C0 C3 C6 C7 CPl CQn) aspLFirst) [] := ⟨⟨_, _, _, [], ok_law_first F42 B C__law_answers, m42, k42, b42, .nil⟩⟩
  exact ok_law F43 B T0 T6 T7 C__law_pool D_draw C__law_scene C__law_holdings C__law_same C__law_question C__law_first M_keep M_picks MX_Wallet K_Group
def ex0 : List (PySem.W.Frag → Bool) := [fun K => decide (PySem.W.nsIn K mainGlobals "Group" = some (some (.ref (He.ga K "Group")))),
  fun K => decide (PySem.W.plainGet K (He.ga K "Group") Str.empty = true),
  fun K => decide (PySem.W.hasDictIn K (He.ga K "Group") = true),
  fun K => decide (PySem.W.plainOver K (He.ga K "Group") = true),
  fun K => decide (PySem.W.findIn K (.ref (He.ga K "Group")) "__setattr__" = some (some (.builtin "object.__setattr__"))),
  fun K => decide (PySem.W.makesIn K (He.ga K "Group") = true),
  fun K => decide (PySem.W.keepIn K (.ref (He.ga K "Group")) = true),
  fun K => decide (PySem.W.findIn K (.ref (He.ga K "Group")) "p" = some none),
  fun K => decide (PySem.W.findIn K (.ref (He.ga K "Group")) "q" = some none),
  fun K => decide (PySem.W.findIn K (.ref (He.ga K "Group")) "bases" = some none),
  fun K => decide (PySem.W.nsIn K mainGlobals "Kind" = some (some (.ref (He.ga K "Kind")))),
  fun K => decide (PySem.W.plainGet K (He.ga K "Kind") Str.empty = true),
  fun K => decide (PySem.W.hasDictIn K (He.ga K "Kind") = true),
  fun K => decide (PySem.W.plainOver K (He.ga K "Kind") = true),
  fun K => decide (PySem.W.findIn K (.ref (He.ga K "Kind")) "__setattr__" = some (some (.builtin "object.__setattr__"))),
  fun K => decide (PySem.W.makesIn K (He.ga K "Kind") = true),
  fun K => decide (PySem.W.keepIn K (.ref (He.ga K "Kind")) = true),
  fun K => decide (PySem.W.findIn K (.ref (He.ga K "Kind")) "name" = some none),
  fun K => decide (PySem.W.findIn K (.ref (He.ga K "Kind")) "fields" = some none),
  fun K => decide (PySem.W.nsIn K mainGlobals "Wallet" = some (some (.ref (He.ga K "Wallet"))))]
def ex1 : List (PySem.W.Frag → Bool) := [fun K => decide (PySem.W.plainGet K (He.ga K "Wallet") Str.empty = true),
  fun K => decide (PySem.W.hasDictIn K (He.ga K "Wallet") = true),
  fun K => decide (PySem.W.plainOver K (He.ga K "Wallet") = true),
  fun K => decide (PySem.W.findIn K (.ref (He.ga K "Wallet")) "__setattr__" = some (some (.builtin "object.__setattr__"))),
  fun K => decide (PySem.W.makesIn K (He.ga K "Wallet") = true),
  fun K => decide (PySem.W.keepIn K (.ref (He.ga K "Wallet")) = true),
  fun K => decide (PySem.W.findIn K (.ref (He.ga K "Wallet")) "group" = some none),
  fun K => decide (PySem.W.findIn K (.ref (He.ga K "Wallet")) "secret" = some none),
  fun K => decide (PySem.W.findIn K (.ref (He.ga K "Wallet")) "holdings" = some none),
  fun K => decide (PySem.W.nsIn K mainGlobals "Pick" = some (some (.ref (He.ga K "Pick")))),
  fun K => decide (PySem.W.plainGet K (He.ga K "Pick") Str.empty = true),
  fun K => decide (PySem.W.hasDictIn K (He.ga K "Pick") = true),
  fun K => decide (PySem.W.plainOver K (He.ga K "Pick") = true),
  fun K => decide (PySem.W.findIn K (.ref (He.ga K "Pick")) "__setattr__" = some (some (.builtin "object.__setattr__"))),
  fun K => decide (PySem.W.makesIn K (He.ga K "Pick") = true),
  fun K => decide (PySem.W.keepIn K (.ref (He.ga K "Pick")) = true),
  fun K => decide (PySem.W.findIn K (.ref (He.ga K "Pick")) "row" = some none),
  fun K => decide (PySem.W.findIn K (.ref (He.ga K "Pick")) "randomness" = some none),
  fun K => decide (PySem.W.findIn K (.ref (He.ga K "Pick")) "numbers" = some none),
  fun K => decide (PySem.W.nsIn K mainGlobals "Policy" = some (some (.ref (He.ga K "Policy"))))]
def ex2 : List (PySem.W.Frag → Bool) := [fun K => decide (PySem.W.plainGet K (He.ga K "Policy") Str.empty = true),
  fun K => decide (PySem.W.hasDictIn K (He.ga K "Policy") = true),
  fun K => decide (PySem.W.plainOver K (He.ga K "Policy") = true),
  fun K => decide (PySem.W.findIn K (.ref (He.ga K "Policy")) "__setattr__" = some (some (.builtin "object.__setattr__"))),
  fun K => decide (PySem.W.makesIn K (He.ga K "Policy") = true),
  fun K => decide (PySem.W.keepIn K (.ref (He.ga K "Policy")) = true),
  fun K => decide (PySem.W.findIn K (.ref (He.ga K "Policy")) "cards" = some none),
  fun K => decide (PySem.W.findIn K (.ref (He.ga K "Policy")) "conditions" = some none),
  fun K => decide (PySem.W.nsIn K mainGlobals "Question" = some (some (.ref (He.ga K "Question")))),
  fun K => decide (PySem.W.plainGet K (He.ga K "Question") Str.empty = true),
  fun K => decide (PySem.W.hasDictIn K (He.ga K "Question") = true),
  fun K => decide (PySem.W.plainOver K (He.ga K "Question") = true),
  fun K => decide (PySem.W.findIn K (.ref (He.ga K "Question")) "__setattr__" = some (some (.builtin "object.__setattr__"))),
  fun K => decide (PySem.W.makesIn K (He.ga K "Question") = true),
  fun K => decide (PySem.W.keepIn K (.ref (He.ga K "Question")) = true),
  fun K => decide (PySem.W.findIn K (.ref (He.ga K "Question")) "group" = some none),
  fun K => decide (PySem.W.findIn K (.ref (He.ga K "Question")) "kinds" = some none),
  fun K => decide (PySem.W.findIn K (.ref (He.ga K "Question")) "policy" = some none),
  fun K => decide (PySem.W.findIn K (.ref (He.ga K "Question")) "rows" = some none),
  fun K => decide (PySem.W.nsIn K mainGlobals "SMALLEST_P" = some (some (.int 3 (HM.tokG K "SMALLEST_P"))))]
def ex3 : List (PySem.W.Frag → Bool) := [fun K => decide (PySem.W.nsIn K mainGlobals "LARGEST_P" = some (some (.int 1000000 (HM.tokG K "LARGEST_P")))),
  fun K => decide (PySem.W.nsIn K mainGlobals "FEWEST_BASES" = some (some (.int 2 (HM.tokG K "FEWEST_BASES")))),
  fun K => decide (PySem.W.nsIn K mainGlobals "MOST_BASES" = some (some (.int 12 (HM.tokG K "MOST_BASES")))),
  fun K => decide (PySem.W.nsIn K mainGlobals "power" = some (some (.ref (He.fAd K ("power", none))))),
  fun K => decide (PySem.W.keepIn K (.ref (He.fAd K ("power", none))) = true),
  fun K => decide (PySem.W.nsIn K mainGlobals "is_prime" = some (some (.ref (He.fAd K ("is_prime", none))))),
  fun K => decide (PySem.W.keepIn K (.ref (He.fAd K ("is_prime", none))) = true),
  fun K => decide (PySem.W.nsIn K mainGlobals "_is_root" = some (some (.ref (He.fAd K ("_is_root", none))))),
  fun K => decide (PySem.W.keepIn K (.ref (He.fAd K ("_is_root", none))) = true),
  fun K => decide (PySem.W.nsIn K mainGlobals "_check_primes" = some (some (.ref (He.fAd K ("_check_primes", none))))),
  fun K => decide (PySem.W.keepIn K (.ref (He.fAd K ("_check_primes", none))) = true),
  fun K => decide (PySem.W.nsIn K mainGlobals "_check_bases" = some (some (.ref (He.fAd K ("_check_bases", none))))),
  fun K => decide (PySem.W.keepIn K (.ref (He.fAd K ("_check_bases", none))) = true),
  fun K => decide (PySem.W.findIn K (.ref (He.ga K "Group")) "__init__" = some (some (.ref (He.fAd K ("Group", some "__init__"))))),
  fun K => decide (PySem.W.isFn K (.ref (He.fAd K ("Group", some "__init__"))) = true),
  fun K => decide (PySem.W.keepIn K (.ref (He.fAd K ("Group", some "__init__"))) = true),
  fun K => decide (PySem.W.findIn K (.ref (He.ga K "Kind")) "__init__" = some (some (.ref (He.fAd K ("Kind", some "__init__"))))),
  fun K => decide (PySem.W.isFn K (.ref (He.fAd K ("Kind", some "__init__"))) = true),
  fun K => decide (PySem.W.keepIn K (.ref (He.fAd K ("Kind", some "__init__"))) = true),
  fun K => decide (PySem.W.nsIn K mainGlobals "_kept" = some (some (.ref (He.fAd K ("_kept", none)))))]
def ex4 : List (PySem.W.Frag → Bool) := [fun K => decide (PySem.W.keepIn K (.ref (He.fAd K ("_kept", none))) = true),
  fun K => decide (PySem.W.findIn K (.ref (He.ga K "Policy")) "__init__" = some (some (.ref (He.fAd K ("Policy", some "__init__"))))),
  fun K => decide (PySem.W.isFn K (.ref (He.fAd K ("Policy", some "__init__"))) = true),
  fun K => decide (PySem.W.keepIn K (.ref (He.fAd K ("Policy", some "__init__"))) = true),
  fun K => decide (PySem.W.findIn K (.ref (He.ga K "Question")) "__init__" = some (some (.ref (He.fAd K ("Question", some "__init__"))))),
  fun K => decide (PySem.W.isFn K (.ref (He.fAd K ("Question", some "__init__"))) = true),
  fun K => decide (PySem.W.keepIn K (.ref (He.fAd K ("Question", some "__init__"))) = true),
  fun K => decide (PySem.W.findIn K (.ref (He.ga K "Pick")) "__init__" = some (some (.ref (He.fAd K ("Pick", some "__init__"))))),
  fun K => decide (PySem.W.isFn K (.ref (He.fAd K ("Pick", some "__init__"))) = true),
  fun K => decide (PySem.W.keepIn K (.ref (He.fAd K ("Pick", some "__init__"))) = true),
  fun K => decide (PySem.W.nsIn K mainGlobals "fields_of" = some (some (.ref (He.fAd K ("fields_of", none))))),
  fun K => decide (PySem.W.keepIn K (.ref (He.fAd K ("fields_of", none))) = true),
  fun K => decide (PySem.W.nsIn K mainGlobals "_place_named" = some (some (.ref (He.fAd K ("_place_named", none))))),
  fun K => decide (PySem.W.keepIn K (.ref (He.fAd K ("_place_named", none))) = true),
  fun K => decide (PySem.W.nsIn K mainGlobals "conditions_of" = some (some (.ref (He.fAd K ("conditions_of", none))))),
  fun K => decide (PySem.W.keepIn K (.ref (He.fAd K ("conditions_of", none))) = true),
  fun K => decide (PySem.W.nsIn K mainGlobals "_lets" = some (some (.ref (He.fAd K ("_lets", none))))),
  fun K => decide (PySem.W.keepIn K (.ref (He.fAd K ("_lets", none))) = true),
  fun K => decide (PySem.W.nsIn K mainGlobals "meet_conditions" = some (some (.ref (He.fAd K ("meet_conditions", none))))),
  fun K => decide (PySem.W.keepIn K (.ref (He.fAd K ("meet_conditions", none))) = true)]
def ex5 : List (PySem.W.Frag → Bool) := [fun K => decide (PySem.W.nsIn K mainGlobals "answers" = some (some (.ref (He.fAd K ("answers", none))))),
  fun K => decide (PySem.W.keepIn K (.ref (He.fAd K ("answers", none))) = true),
  fun K => decide (PySem.W.nsIn K mainGlobals "_first_answer" = some (some (.ref (He.fAd K ("_first_answer", none))))),
  fun K => decide (PySem.W.keepIn K (.ref (He.fAd K ("_first_answer", none))) = true),
  fun K => decide (PySem.W.findIn K (.ref (He.ga K "Wallet")) "_candidates" = some (some (.ref (He.fAd K ("Wallet", some "_candidates"))))),
  fun K => decide (PySem.W.isFn K (.ref (He.fAd K ("Wallet", some "_candidates"))) = true),
  fun K => decide (PySem.W.keepIn K (.ref (He.fAd K ("Wallet", some "_candidates"))) = true),
  fun K => decide (PySem.W.findIn K (.ref (He.ga K "Wallet")) "picks" = some (some (.ref (He.fAd K ("Wallet", some "picks"))))),
  fun K => decide (PySem.W.isFn K (.ref (He.fAd K ("Wallet", some "picks"))) = true),
  fun K => decide (PySem.W.keepIn K (.ref (He.fAd K ("Wallet", some "picks"))) = true),
  fun K => decide (PySem.W.findIn K (.ref (He.ga K "Wallet")) "__init__" = some (some (.ref (He.fAd K ("Wallet", some "__init__"))))),
  fun K => decide (PySem.W.isFn K (.ref (He.fAd K ("Wallet", some "__init__"))) = true),
  fun K => decide (PySem.W.keepIn K (.ref (He.fAd K ("Wallet", some "__init__"))) = true),
  fun K => decide (PySem.W.findIn K (.ref (He.ga K "Wallet")) "keep" = some (some (.ref (He.fAd K ("Wallet", some "keep"))))),
  fun K => decide (PySem.W.isFn K (.ref (He.fAd K ("Wallet", some "keep"))) = true),
  fun K => decide (PySem.W.keepIn K (.ref (He.fAd K ("Wallet", some "keep"))) = true),
  fun K => decide (PySem.W.nsIn K mainGlobals "_law_pool" = some (some (.ref (He.fAd K ("_law_pool", none))))),
  fun K => decide (PySem.W.keepIn K (.ref (He.fAd K ("_law_pool", none))) = true),
  fun K => decide (PySem.W.nsIn K mainGlobals "_law_draw" = some (some (.ref (He.fAd K ("_law_draw", none))))),
  fun K => decide (PySem.W.keepIn K (.ref (He.fAd K ("_law_draw", none))) = true)]
def ex6 : List (PySem.W.Frag → Bool) := [fun K => decide (PySem.W.nsIn K mainGlobals "_law_same" = some (some (.ref (He.fAd K ("_law_same", none))))),
  fun K => decide (PySem.W.keepIn K (.ref (He.fAd K ("_law_same", none))) = true),
  fun K => decide (PySem.W.nsIn K mainGlobals "_law_power" = some (some (.ref (He.fAd K ("_law_power", none))))),
  fun K => decide (PySem.W.keepIn K (.ref (He.fAd K ("_law_power", none))) = true),
  fun K => decide (PySem.W.nsIn K mainGlobals "_law_raised" = some (some (.ref (He.fAd K ("_law_raised", none))))),
  fun K => decide (PySem.W.keepIn K (.ref (He.fAd K ("_law_raised", none))) = true),
  fun K => decide (PySem.W.nsIn K mainGlobals "_law_product" = some (some (.ref (He.fAd K ("_law_product", none))))),
  fun K => decide (PySem.W.keepIn K (.ref (He.fAd K ("_law_product", none))) = true),
  fun K => decide (PySem.W.nsIn K mainGlobals "_law_commit" = some (some (.ref (He.fAd K ("_law_commit", none))))),
  fun K => decide (PySem.W.keepIn K (.ref (He.fAd K ("_law_commit", none))) = true),
  fun K => decide (PySem.W.nsIn K mainGlobals "_law_group" = some (some (.ref (He.fAd K ("_law_group", none))))),
  fun K => decide (PySem.W.keepIn K (.ref (He.fAd K ("_law_group", none))) = true),
  fun K => decide (PySem.W.nsIn K mainGlobals "_law_numbers" = some (some (.ref (He.fAd K ("_law_numbers", none))))),
  fun K => decide (PySem.W.keepIn K (.ref (He.fAd K ("_law_numbers", none))) = true),
  fun K => decide (PySem.W.nsIn K mainGlobals "_law_kinds" = some (some (.ref (He.fAd K ("_law_kinds", none))))),
  fun K => decide (PySem.W.keepIn K (.ref (He.fAd K ("_law_kinds", none))) = true),
  fun K => decide (PySem.W.nsIn K mainGlobals "_law_rows" = some (some (.ref (He.fAd K ("_law_rows", none))))),
  fun K => decide (PySem.W.keepIn K (.ref (He.fAd K ("_law_rows", none))) = true),
  fun K => decide (PySem.W.nsIn K mainGlobals "_law_fields" = some (some (.ref (He.fAd K ("_law_fields", none))))),
  fun K => decide (PySem.W.keepIn K (.ref (He.fAd K ("_law_fields", none))) = true)]
def ex7 : List (PySem.W.Frag → Bool) := [fun K => decide (PySem.W.nsIn K mainGlobals "_law_condition" = some (some (.ref (He.fAd K ("_law_condition", none))))),
  fun K => decide (PySem.W.keepIn K (.ref (He.fAd K ("_law_condition", none))) = true),
  fun K => decide (PySem.W.nsIn K mainGlobals "_law_scene" = some (some (.ref (He.fAd K ("_law_scene", none))))),
  fun K => decide (PySem.W.keepIn K (.ref (He.fAd K ("_law_scene", none))) = true),
  fun K => decide (PySem.W.nsIn K mainGlobals "_law_question" = some (some (.ref (He.fAd K ("_law_question", none))))),
  fun K => decide (PySem.W.keepIn K (.ref (He.fAd K ("_law_question", none))) = true),
  fun K => decide (PySem.W.nsIn K mainGlobals "_law_place" = some (some (.ref (He.fAd K ("_law_place", none))))),
  fun K => decide (PySem.W.keepIn K (.ref (He.fAd K ("_law_place", none))) = true),
  fun K => decide (PySem.W.nsIn K mainGlobals "_law_sizes" = some (some (.ref (He.fAd K ("_law_sizes", none))))),
  fun K => decide (PySem.W.keepIn K (.ref (He.fAd K ("_law_sizes", none))) = true),
  fun K => decide (PySem.W.nsIn K mainGlobals "_law_allowed" = some (some (.ref (He.fAd K ("_law_allowed", none))))),
  fun K => decide (PySem.W.keepIn K (.ref (He.fAd K ("_law_allowed", none))) = true),
  fun K => decide (PySem.W.nsIn K mainGlobals "_law_answers" = some (some (.ref (He.fAd K ("_law_answers", none))))),
  fun K => decide (PySem.W.keepIn K (.ref (He.fAd K ("_law_answers", none))) = true),
  fun K => decide (PySem.W.nsIn K mainGlobals "_law_holdings" = some (some (.ref (He.fAd K ("_law_holdings", none))))),
  fun K => decide (PySem.W.keepIn K (.ref (He.fAd K ("_law_holdings", none))) = true),
  fun K => decide (PySem.W.nsIn K mainGlobals "_law_first" = some (some (.ref (He.fAd K ("_law_first", none))))),
  fun K => decide (PySem.W.keepIn K (.ref (He.fAd K ("_law_first", none))) = true),
  fun K => decide (PySem.W.nsIn K mainGlobals "law" = some (some (.ref (He.fAd K ("law", none))))),
  fun K => decide (PySem.W.keepIn K (.ref (He.fAd K ("law", none))) = true)]
def ex8 : List (PySem.W.Frag → Bool) := [fun K => decide (PySem.W.nsIn K mainGlobals "isinstance" = some none),
  fun K => decide (PySem.W.nsIn K mainGlobals "len" = some none),
  fun K => decide (PySem.W.nsIn K mainGlobals "sum" = some none),
  fun K => decide (PySem.W.nsIn K mainGlobals "max" = some none),
  fun K => decide (PySem.W.nsIn K mainGlobals "min" = some none),
  fun K => decide (PySem.W.nsIn K mainGlobals "abs" = some none),
  fun K => decide (PySem.W.nsIn K mainGlobals "any" = some none),
  fun K => decide (PySem.W.nsIn K mainGlobals "all" = some none),
  fun K => decide (PySem.W.nsIn K mainGlobals "sorted" = some none),
  fun K => decide (PySem.W.nsIn K mainGlobals "int" = some none),
  fun K => decide (PySem.W.nsIn K mainGlobals "bool" = some none),
  fun K => decide (PySem.W.nsIn K mainGlobals "str" = some none),
  fun K => decide (PySem.W.nsIn K mainGlobals "list" = some none),
  fun K => decide (PySem.W.nsIn K mainGlobals "tuple" = some none),
  fun K => decide (PySem.W.nsIn K mainGlobals "dict" = some none),
  fun K => decide (PySem.W.nsIn K mainGlobals "range" = some none),
  fun K => decide (PySem.W.nsIn K mainGlobals "enumerate" = some none),
  fun K => decide (PySem.W.nsIn K mainGlobals "zip" = some none)]
def exs : HM.Ex := [ex0, ex1, ex2, ex3, ex4, ex5, ex6, ex7, ex8]
def fd0 : He.FnD := ⟨("power", none), "power", "power", defArgs s_power, defBody s_power, defScope s_power⟩
def fd1 : He.FnD := ⟨("is_prime", none), "is_prime", "is_prime", defArgs s_is_prime, defBody s_is_prime, defScope s_is_prime⟩
def fd2 : He.FnD := ⟨("_is_root", none), "_is_root", "_is_root", defArgs s__is_root, defBody s__is_root, defScope s__is_root⟩
def fd3 : He.FnD := ⟨("_check_primes", none), "_check_primes", "_check_primes", defArgs s__check_primes, defBody s__check_primes, defScope s__check_primes⟩
def fd4 : He.FnD := ⟨("_check_bases", none), "_check_bases", "_check_bases", defArgs s__check_bases, defBody s__check_bases, defScope s__check_bases⟩
def fd5 : He.FnD := ⟨("Group", some "__init__"), "__init__", "Group.__init__", defArgs s_Group___init__, defBody s_Group___init__, defScope s_Group___init__⟩
def fd6 : He.FnD := ⟨("Kind", some "__init__"), "__init__", "Kind.__init__", defArgs s_Kind___init__, defBody s_Kind___init__, defScope s_Kind___init__⟩
def fd7 : He.FnD := ⟨("_kept", none), "_kept", "_kept", defArgs s__kept, defBody s__kept, defScope s__kept⟩
def fd8 : He.FnD := ⟨("Policy", some "__init__"), "__init__", "Policy.__init__", defArgs s_Policy___init__, defBody s_Policy___init__, defScope s_Policy___init__⟩
def fd9 : He.FnD := ⟨("Question", some "__init__"), "__init__", "Question.__init__", defArgs s_Question___init__, defBody s_Question___init__, defScope s_Question___init__⟩
def fd10 : He.FnD := ⟨("Pick", some "__init__"), "__init__", "Pick.__init__", defArgs s_Pick___init__, defBody s_Pick___init__, defScope s_Pick___init__⟩
def fd11 : He.FnD := ⟨("fields_of", none), "fields_of", "fields_of", defArgs s_fields_of, defBody s_fields_of, defScope s_fields_of⟩
def fd12 : He.FnD := ⟨("_place_named", none), "_place_named", "_place_named", defArgs s__place_named, defBody s__place_named, defScope s__place_named⟩
def fd13 : He.FnD := ⟨("conditions_of", none), "conditions_of", "conditions_of", defArgs s_conditions_of, defBody s_conditions_of, defScope s_conditions_of⟩
def fd14 : He.FnD := ⟨("_lets", none), "_lets", "_lets", defArgs s__lets, defBody s__lets, defScope s__lets⟩
def fd15 : He.FnD := ⟨("meet_conditions", none), "meet_conditions", "meet_conditions", defArgs s_meet_conditions, defBody s_meet_conditions, defScope s_meet_conditions⟩
def fd16 : He.FnD := ⟨("answers", none), "answers", "answers", defArgs s_answers, defBody s_answers, defScope s_answers⟩
def fd17 : He.FnD := ⟨("_first_answer", none), "_first_answer", "_first_answer", defArgs s__first_answer, defBody s__first_answer, defScope s__first_answer⟩
def fd18 : He.FnD := ⟨("Wallet", some "_candidates"), "_candidates", "Wallet._candidates", defArgs s_Wallet__candidates, defBody s_Wallet__candidates, defScope s_Wallet__candidates⟩
def fd19 : He.FnD := ⟨("Wallet", some "picks"), "picks", "Wallet.picks", defArgs s_Wallet_picks, defBody s_Wallet_picks, defScope s_Wallet_picks⟩
def fd20 : He.FnD := ⟨("Wallet", some "__init__"), "__init__", "Wallet.__init__", defArgs s_Wallet___init__, defBody s_Wallet___init__, defScope s_Wallet___init__⟩
def fd21 : He.FnD := ⟨("Wallet", some "keep"), "keep", "Wallet.keep", defArgs s_Wallet_keep, defBody s_Wallet_keep, defScope s_Wallet_keep⟩
def fd22 : He.FnD := ⟨("_law_pool", none), "_law_pool", "_law_pool", defArgs s__law_pool, defBody s__law_pool, defScope s__law_pool⟩
def fd23 : He.FnD := ⟨("_law_draw", none), "_law_draw", "_law_draw", defArgs s__law_draw, defBody s__law_draw, defScope s__law_draw⟩
def fd24 : He.FnD := ⟨("_law_same", none), "_law_same", "_law_same", defArgs s__law_same, defBody s__law_same, defScope s__law_same⟩
def fd25 : He.FnD := ⟨("_law_power", none), "_law_power", "_law_power", defArgs s__law_power, defBody s__law_power, defScope s__law_power⟩
def fd26 : He.FnD := ⟨("_law_raised", none), "_law_raised", "_law_raised", defArgs s__law_raised, defBody s__law_raised, defScope s__law_raised⟩
def fd27 : He.FnD := ⟨("_law_product", none), "_law_product", "_law_product", defArgs s__law_product, defBody s__law_product, defScope s__law_product⟩
def fd28 : He.FnD := ⟨("_law_commit", none), "_law_commit", "_law_commit", defArgs s__law_commit, defBody s__law_commit, defScope s__law_commit⟩
def fd29 : He.FnD := ⟨("_law_group", none), "_law_group", "_law_group", defArgs s__law_group, defBody s__law_group, defScope s__law_group⟩
def fd30 : He.FnD := ⟨("_law_numbers", none), "_law_numbers", "_law_numbers", defArgs s__law_numbers, defBody s__law_numbers, defScope s__law_numbers⟩
def fd31 : He.FnD := ⟨("_law_kinds", none), "_law_kinds", "_law_kinds", defArgs s__law_kinds, defBody s__law_kinds, defScope s__law_kinds⟩
def fd32 : He.FnD := ⟨("_law_rows", none), "_law_rows", "_law_rows", defArgs s__law_rows, defBody s__law_rows, defScope s__law_rows⟩
def fd33 : He.FnD := ⟨("_law_fields", none), "_law_fields", "_law_fields", defArgs s__law_fields, defBody s__law_fields, defScope s__law_fields⟩
def fd34 : He.FnD := ⟨("_law_condition", none), "_law_condition", "_law_condition", defArgs s__law_condition, defBody s__law_condition, defScope s__law_condition⟩
def fd35 : He.FnD := ⟨("_law_scene", none), "_law_scene", "_law_scene", defArgs s__law_scene, defBody s__law_scene, defScope s__law_scene⟩
def fd36 : He.FnD := ⟨("_law_question", none), "_law_question", "_law_question", defArgs s__law_question, defBody s__law_question, defScope s__law_question⟩
def fd37 : He.FnD := ⟨("_law_place", none), "_law_place", "_law_place", defArgs s__law_place, defBody s__law_place, defScope s__law_place⟩
def fd38 : He.FnD := ⟨("_law_sizes", none), "_law_sizes", "_law_sizes", defArgs s__law_sizes, defBody s__law_sizes, defScope s__law_sizes⟩
def fd39 : He.FnD := ⟨("_law_allowed", none), "_law_allowed", "_law_allowed", defArgs s__law_allowed, defBody s__law_allowed, defScope s__law_allowed⟩
def fd40 : He.FnD := ⟨("_law_answers", none), "_law_answers", "_law_answers", defArgs s__law_answers, defBody s__law_answers, defScope s__law_answers⟩
def fd41 : He.FnD := ⟨("_law_holdings", none), "_law_holdings", "_law_holdings", defArgs s__law_holdings, defBody s__law_holdings, defScope s__law_holdings⟩
def fd42 : He.FnD := ⟨("_law_first", none), "_law_first", "_law_first", defArgs s__law_first, defBody s__law_first, defScope s__law_first⟩
def fd43 : He.FnD := ⟨("law", none), "law", "law", defArgs s_law, defBody s_law, defScope s_law⟩
def fds0 : List He.FnD := [fd0, fd1, fd2, fd3, fd4, fd5, fd6, fd7, fd8, fd9, fd10, fd11, fd12, fd13, fd14, fd15, fd16, fd17, fd18, fd19]
def fds1 : List He.FnD := [fd20, fd21, fd22, fd23, fd24, fd25, fd26, fd27, fd28, fd29, fd30, fd31, fd32, fd33, fd34, fd35, fd36, fd37, fd38, fd39]
def fds2 : List He.FnD := [fd40, fd41, fd42, fd43]
def fds : List He.FnD := fds0 ++ fds1 ++ fds2
theorem rw_a_C0 {K : PySem.W.Frag} (c : HM.Says exs fds K) : PySem.W.nsIn K mainGlobals "Group" = some (some (.ref (He.ga K "Group"))) := of_decide_eq_true (c.row (f := fun K => decide (PySem.W.nsIn K mainGlobals "Group" = some (some (.ref (He.ga K "Group"))))) 0 0 rfl rfl)
theorem rw_pg_C0 {K : PySem.W.Frag} (c : HM.Says exs fds K) : PySem.W.plainGet K (He.ga K "Group") Str.empty = true := of_decide_eq_true (c.row (f := fun K => decide (PySem.W.plainGet K (He.ga K "Group") Str.empty = true)) 0 1 rfl rfl)
theorem rw_hd_C0 {K : PySem.W.Frag} (c : HM.Says exs fds K) : PySem.W.hasDictIn K (He.ga K "Group") = true := of_decide_eq_true (c.row (f := fun K => decide (PySem.W.hasDictIn K (He.ga K "Group") = true)) 0 2 rfl rfl)
theorem rw_po_C0 {K : PySem.W.Frag} (c : HM.Says exs fds K) : PySem.W.plainOver K (He.ga K "Group") = true := of_decide_eq_true (c.row (f := fun K => decide (PySem.W.plainOver K (He.ga K "Group") = true)) 0 3 rfl rfl)
theorem rw_sa_C0 {K : PySem.W.Frag} (c : HM.Says exs fds K) : PySem.W.findIn K (.ref (He.ga K "Group")) "__setattr__" = some (some (.builtin "object.__setattr__")) := of_decide_eq_true (c.row (f := fun K => decide (PySem.W.findIn K (.ref (He.ga K "Group")) "__setattr__" = some (some (.builtin "object.__setattr__")))) 0 4 rfl rfl)
theorem rw_mk_C0 {K : PySem.W.Frag} (c : HM.Says exs fds K) : PySem.W.makesIn K (He.ga K "Group") = true := of_decide_eq_true (c.row (f := fun K => decide (PySem.W.makesIn K (He.ga K "Group") = true)) 0 5 rfl rfl)
theorem rw_kc_C0 {K : PySem.W.Frag} (c : HM.Says exs fds K) : PySem.W.keepIn K (.ref (He.ga K "Group")) = true := of_decide_eq_true (c.row (f := fun K => decide (PySem.W.keepIn K (.ref (He.ga K "Group")) = true)) 0 6 rfl rfl)
theorem rw_nC0p {K : PySem.W.Frag} (c : HM.Says exs fds K) : PySem.W.findIn K (.ref (He.ga K "Group")) "p" = some none := of_decide_eq_true (c.row (f := fun K => decide (PySem.W.findIn K (.ref (He.ga K "Group")) "p" = some none)) 0 7 rfl rfl)
theorem rw_nC0q {K : PySem.W.Frag} (c : HM.Says exs fds K) : PySem.W.findIn K (.ref (He.ga K "Group")) "q" = some none := of_decide_eq_true (c.row (f := fun K => decide (PySem.W.findIn K (.ref (He.ga K "Group")) "q" = some none)) 0 8 rfl rfl)
theorem rw_nC0bases {K : PySem.W.Frag} (c : HM.Says exs fds K) : PySem.W.findIn K (.ref (He.ga K "Group")) "bases" = some none := of_decide_eq_true (c.row (f := fun K => decide (PySem.W.findIn K (.ref (He.ga K "Group")) "bases" = some none)) 0 9 rfl rfl)
theorem rw_a_C3 {K : PySem.W.Frag} (c : HM.Says exs fds K) : PySem.W.nsIn K mainGlobals "Kind" = some (some (.ref (He.ga K "Kind"))) := of_decide_eq_true (c.row (f := fun K => decide (PySem.W.nsIn K mainGlobals "Kind" = some (some (.ref (He.ga K "Kind"))))) 0 10 rfl rfl)
theorem rw_pg_C3 {K : PySem.W.Frag} (c : HM.Says exs fds K) : PySem.W.plainGet K (He.ga K "Kind") Str.empty = true := of_decide_eq_true (c.row (f := fun K => decide (PySem.W.plainGet K (He.ga K "Kind") Str.empty = true)) 0 11 rfl rfl)
theorem rw_hd_C3 {K : PySem.W.Frag} (c : HM.Says exs fds K) : PySem.W.hasDictIn K (He.ga K "Kind") = true := of_decide_eq_true (c.row (f := fun K => decide (PySem.W.hasDictIn K (He.ga K "Kind") = true)) 0 12 rfl rfl)
theorem rw_po_C3 {K : PySem.W.Frag} (c : HM.Says exs fds K) : PySem.W.plainOver K (He.ga K "Kind") = true := of_decide_eq_true (c.row (f := fun K => decide (PySem.W.plainOver K (He.ga K "Kind") = true)) 0 13 rfl rfl)
theorem rw_sa_C3 {K : PySem.W.Frag} (c : HM.Says exs fds K) : PySem.W.findIn K (.ref (He.ga K "Kind")) "__setattr__" = some (some (.builtin "object.__setattr__")) := of_decide_eq_true (c.row (f := fun K => decide (PySem.W.findIn K (.ref (He.ga K "Kind")) "__setattr__" = some (some (.builtin "object.__setattr__")))) 0 14 rfl rfl)
theorem rw_mk_C3 {K : PySem.W.Frag} (c : HM.Says exs fds K) : PySem.W.makesIn K (He.ga K "Kind") = true := of_decide_eq_true (c.row (f := fun K => decide (PySem.W.makesIn K (He.ga K "Kind") = true)) 0 15 rfl rfl)
theorem rw_kc_C3 {K : PySem.W.Frag} (c : HM.Says exs fds K) : PySem.W.keepIn K (.ref (He.ga K "Kind")) = true := of_decide_eq_true (c.row (f := fun K => decide (PySem.W.keepIn K (.ref (He.ga K "Kind")) = true)) 0 16 rfl rfl)
theorem rw_nC3name {K : PySem.W.Frag} (c : HM.Says exs fds K) : PySem.W.findIn K (.ref (He.ga K "Kind")) "name" = some none := of_decide_eq_true (c.row (f := fun K => decide (PySem.W.findIn K (.ref (He.ga K "Kind")) "name" = some none)) 0 17 rfl rfl)
theorem rw_nC3fields {K : PySem.W.Frag} (c : HM.Says exs fds K) : PySem.W.findIn K (.ref (He.ga K "Kind")) "fields" = some none := of_decide_eq_true (c.row (f := fun K => decide (PySem.W.findIn K (.ref (He.ga K "Kind")) "fields" = some none)) 0 18 rfl rfl)
theorem rw_a_C6 {K : PySem.W.Frag} (c : HM.Says exs fds K) : PySem.W.nsIn K mainGlobals "Wallet" = some (some (.ref (He.ga K "Wallet"))) := of_decide_eq_true (c.row (f := fun K => decide (PySem.W.nsIn K mainGlobals "Wallet" = some (some (.ref (He.ga K "Wallet"))))) 0 19 rfl rfl)
theorem rw_pg_C6 {K : PySem.W.Frag} (c : HM.Says exs fds K) : PySem.W.plainGet K (He.ga K "Wallet") Str.empty = true := of_decide_eq_true (c.row (f := fun K => decide (PySem.W.plainGet K (He.ga K "Wallet") Str.empty = true)) 1 0 rfl rfl)
theorem rw_hd_C6 {K : PySem.W.Frag} (c : HM.Says exs fds K) : PySem.W.hasDictIn K (He.ga K "Wallet") = true := of_decide_eq_true (c.row (f := fun K => decide (PySem.W.hasDictIn K (He.ga K "Wallet") = true)) 1 1 rfl rfl)
theorem rw_po_C6 {K : PySem.W.Frag} (c : HM.Says exs fds K) : PySem.W.plainOver K (He.ga K "Wallet") = true := of_decide_eq_true (c.row (f := fun K => decide (PySem.W.plainOver K (He.ga K "Wallet") = true)) 1 2 rfl rfl)
theorem rw_sa_C6 {K : PySem.W.Frag} (c : HM.Says exs fds K) : PySem.W.findIn K (.ref (He.ga K "Wallet")) "__setattr__" = some (some (.builtin "object.__setattr__")) := of_decide_eq_true (c.row (f := fun K => decide (PySem.W.findIn K (.ref (He.ga K "Wallet")) "__setattr__" = some (some (.builtin "object.__setattr__")))) 1 3 rfl rfl)
theorem rw_mk_C6 {K : PySem.W.Frag} (c : HM.Says exs fds K) : PySem.W.makesIn K (He.ga K "Wallet") = true := of_decide_eq_true (c.row (f := fun K => decide (PySem.W.makesIn K (He.ga K "Wallet") = true)) 1 4 rfl rfl)
theorem rw_kc_C6 {K : PySem.W.Frag} (c : HM.Says exs fds K) : PySem.W.keepIn K (.ref (He.ga K "Wallet")) = true := of_decide_eq_true (c.row (f := fun K => decide (PySem.W.keepIn K (.ref (He.ga K "Wallet")) = true)) 1 5 rfl rfl)
theorem rw_nC6group {K : PySem.W.Frag} (c : HM.Says exs fds K) : PySem.W.findIn K (.ref (He.ga K "Wallet")) "group" = some none := of_decide_eq_true (c.row (f := fun K => decide (PySem.W.findIn K (.ref (He.ga K "Wallet")) "group" = some none)) 1 6 rfl rfl)
theorem rw_nC6secret {K : PySem.W.Frag} (c : HM.Says exs fds K) : PySem.W.findIn K (.ref (He.ga K "Wallet")) "secret" = some none := of_decide_eq_true (c.row (f := fun K => decide (PySem.W.findIn K (.ref (He.ga K "Wallet")) "secret" = some none)) 1 7 rfl rfl)
theorem rw_nC6holdings {K : PySem.W.Frag} (c : HM.Says exs fds K) : PySem.W.findIn K (.ref (He.ga K "Wallet")) "holdings" = some none := of_decide_eq_true (c.row (f := fun K => decide (PySem.W.findIn K (.ref (He.ga K "Wallet")) "holdings" = some none)) 1 8 rfl rfl)
theorem rw_a_C7 {K : PySem.W.Frag} (c : HM.Says exs fds K) : PySem.W.nsIn K mainGlobals "Pick" = some (some (.ref (He.ga K "Pick"))) := of_decide_eq_true (c.row (f := fun K => decide (PySem.W.nsIn K mainGlobals "Pick" = some (some (.ref (He.ga K "Pick"))))) 1 9 rfl rfl)
theorem rw_pg_C7 {K : PySem.W.Frag} (c : HM.Says exs fds K) : PySem.W.plainGet K (He.ga K "Pick") Str.empty = true := of_decide_eq_true (c.row (f := fun K => decide (PySem.W.plainGet K (He.ga K "Pick") Str.empty = true)) 1 10 rfl rfl)
theorem rw_hd_C7 {K : PySem.W.Frag} (c : HM.Says exs fds K) : PySem.W.hasDictIn K (He.ga K "Pick") = true := of_decide_eq_true (c.row (f := fun K => decide (PySem.W.hasDictIn K (He.ga K "Pick") = true)) 1 11 rfl rfl)
theorem rw_po_C7 {K : PySem.W.Frag} (c : HM.Says exs fds K) : PySem.W.plainOver K (He.ga K "Pick") = true := of_decide_eq_true (c.row (f := fun K => decide (PySem.W.plainOver K (He.ga K "Pick") = true)) 1 12 rfl rfl)
theorem rw_sa_C7 {K : PySem.W.Frag} (c : HM.Says exs fds K) : PySem.W.findIn K (.ref (He.ga K "Pick")) "__setattr__" = some (some (.builtin "object.__setattr__")) := of_decide_eq_true (c.row (f := fun K => decide (PySem.W.findIn K (.ref (He.ga K "Pick")) "__setattr__" = some (some (.builtin "object.__setattr__")))) 1 13 rfl rfl)
theorem rw_mk_C7 {K : PySem.W.Frag} (c : HM.Says exs fds K) : PySem.W.makesIn K (He.ga K "Pick") = true := of_decide_eq_true (c.row (f := fun K => decide (PySem.W.makesIn K (He.ga K "Pick") = true)) 1 14 rfl rfl)
theorem rw_kc_C7 {K : PySem.W.Frag} (c : HM.Says exs fds K) : PySem.W.keepIn K (.ref (He.ga K "Pick")) = true := of_decide_eq_true (c.row (f := fun K => decide (PySem.W.keepIn K (.ref (He.ga K "Pick")) = true)) 1 15 rfl rfl)
theorem rw_nC7row {K : PySem.W.Frag} (c : HM.Says exs fds K) : PySem.W.findIn K (.ref (He.ga K "Pick")) "row" = some none := of_decide_eq_true (c.row (f := fun K => decide (PySem.W.findIn K (.ref (He.ga K "Pick")) "row" = some none)) 1 16 rfl rfl)
theorem rw_nC7randomness {K : PySem.W.Frag} (c : HM.Says exs fds K) : PySem.W.findIn K (.ref (He.ga K "Pick")) "randomness" = some none := of_decide_eq_true (c.row (f := fun K => decide (PySem.W.findIn K (.ref (He.ga K "Pick")) "randomness" = some none)) 1 17 rfl rfl)
theorem rw_nC7numbers {K : PySem.W.Frag} (c : HM.Says exs fds K) : PySem.W.findIn K (.ref (He.ga K "Pick")) "numbers" = some none := of_decide_eq_true (c.row (f := fun K => decide (PySem.W.findIn K (.ref (He.ga K "Pick")) "numbers" = some none)) 1 18 rfl rfl)
theorem rw_a_CPl {K : PySem.W.Frag} (c : HM.Says exs fds K) : PySem.W.nsIn K mainGlobals "Policy" = some (some (.ref (He.ga K "Policy"))) := of_decide_eq_true (c.row (f := fun K => decide (PySem.W.nsIn K mainGlobals "Policy" = some (some (.ref (He.ga K "Policy"))))) 1 19 rfl rfl)
theorem rw_pg_CPl {K : PySem.W.Frag} (c : HM.Says exs fds K) : PySem.W.plainGet K (He.ga K "Policy") Str.empty = true := of_decide_eq_true (c.row (f := fun K => decide (PySem.W.plainGet K (He.ga K "Policy") Str.empty = true)) 2 0 rfl rfl)
theorem rw_hd_CPl {K : PySem.W.Frag} (c : HM.Says exs fds K) : PySem.W.hasDictIn K (He.ga K "Policy") = true := of_decide_eq_true (c.row (f := fun K => decide (PySem.W.hasDictIn K (He.ga K "Policy") = true)) 2 1 rfl rfl)
theorem rw_po_CPl {K : PySem.W.Frag} (c : HM.Says exs fds K) : PySem.W.plainOver K (He.ga K "Policy") = true := of_decide_eq_true (c.row (f := fun K => decide (PySem.W.plainOver K (He.ga K "Policy") = true)) 2 2 rfl rfl)
theorem rw_sa_CPl {K : PySem.W.Frag} (c : HM.Says exs fds K) : PySem.W.findIn K (.ref (He.ga K "Policy")) "__setattr__" = some (some (.builtin "object.__setattr__")) := of_decide_eq_true (c.row (f := fun K => decide (PySem.W.findIn K (.ref (He.ga K "Policy")) "__setattr__" = some (some (.builtin "object.__setattr__")))) 2 3 rfl rfl)
theorem rw_mk_CPl {K : PySem.W.Frag} (c : HM.Says exs fds K) : PySem.W.makesIn K (He.ga K "Policy") = true := of_decide_eq_true (c.row (f := fun K => decide (PySem.W.makesIn K (He.ga K "Policy") = true)) 2 4 rfl rfl)
theorem rw_kc_CPl {K : PySem.W.Frag} (c : HM.Says exs fds K) : PySem.W.keepIn K (.ref (He.ga K "Policy")) = true := of_decide_eq_true (c.row (f := fun K => decide (PySem.W.keepIn K (.ref (He.ga K "Policy")) = true)) 2 5 rfl rfl)
theorem rw_nCPlcards {K : PySem.W.Frag} (c : HM.Says exs fds K) : PySem.W.findIn K (.ref (He.ga K "Policy")) "cards" = some none := of_decide_eq_true (c.row (f := fun K => decide (PySem.W.findIn K (.ref (He.ga K "Policy")) "cards" = some none)) 2 6 rfl rfl)
theorem rw_nCPlconditions {K : PySem.W.Frag} (c : HM.Says exs fds K) : PySem.W.findIn K (.ref (He.ga K "Policy")) "conditions" = some none := of_decide_eq_true (c.row (f := fun K => decide (PySem.W.findIn K (.ref (He.ga K "Policy")) "conditions" = some none)) 2 7 rfl rfl)
theorem rw_a_CQn {K : PySem.W.Frag} (c : HM.Says exs fds K) : PySem.W.nsIn K mainGlobals "Question" = some (some (.ref (He.ga K "Question"))) := of_decide_eq_true (c.row (f := fun K => decide (PySem.W.nsIn K mainGlobals "Question" = some (some (.ref (He.ga K "Question"))))) 2 8 rfl rfl)
theorem rw_pg_CQn {K : PySem.W.Frag} (c : HM.Says exs fds K) : PySem.W.plainGet K (He.ga K "Question") Str.empty = true := of_decide_eq_true (c.row (f := fun K => decide (PySem.W.plainGet K (He.ga K "Question") Str.empty = true)) 2 9 rfl rfl)
theorem rw_hd_CQn {K : PySem.W.Frag} (c : HM.Says exs fds K) : PySem.W.hasDictIn K (He.ga K "Question") = true := of_decide_eq_true (c.row (f := fun K => decide (PySem.W.hasDictIn K (He.ga K "Question") = true)) 2 10 rfl rfl)
theorem rw_po_CQn {K : PySem.W.Frag} (c : HM.Says exs fds K) : PySem.W.plainOver K (He.ga K "Question") = true := of_decide_eq_true (c.row (f := fun K => decide (PySem.W.plainOver K (He.ga K "Question") = true)) 2 11 rfl rfl)
theorem rw_sa_CQn {K : PySem.W.Frag} (c : HM.Says exs fds K) : PySem.W.findIn K (.ref (He.ga K "Question")) "__setattr__" = some (some (.builtin "object.__setattr__")) := of_decide_eq_true (c.row (f := fun K => decide (PySem.W.findIn K (.ref (He.ga K "Question")) "__setattr__" = some (some (.builtin "object.__setattr__")))) 2 12 rfl rfl)
theorem rw_mk_CQn {K : PySem.W.Frag} (c : HM.Says exs fds K) : PySem.W.makesIn K (He.ga K "Question") = true := of_decide_eq_true (c.row (f := fun K => decide (PySem.W.makesIn K (He.ga K "Question") = true)) 2 13 rfl rfl)
theorem rw_kc_CQn {K : PySem.W.Frag} (c : HM.Says exs fds K) : PySem.W.keepIn K (.ref (He.ga K "Question")) = true := of_decide_eq_true (c.row (f := fun K => decide (PySem.W.keepIn K (.ref (He.ga K "Question")) = true)) 2 14 rfl rfl)
theorem rw_nCQngroup {K : PySem.W.Frag} (c : HM.Says exs fds K) : PySem.W.findIn K (.ref (He.ga K "Question")) "group" = some none := of_decide_eq_true (c.row (f := fun K => decide (PySem.W.findIn K (.ref (He.ga K "Question")) "group" = some none)) 2 15 rfl rfl)
theorem rw_nCQnkinds {K : PySem.W.Frag} (c : HM.Says exs fds K) : PySem.W.findIn K (.ref (He.ga K "Question")) "kinds" = some none := of_decide_eq_true (c.row (f := fun K => decide (PySem.W.findIn K (.ref (He.ga K "Question")) "kinds" = some none)) 2 16 rfl rfl)
theorem rw_nCQnpolicy {K : PySem.W.Frag} (c : HM.Says exs fds K) : PySem.W.findIn K (.ref (He.ga K "Question")) "policy" = some none := of_decide_eq_true (c.row (f := fun K => decide (PySem.W.findIn K (.ref (He.ga K "Question")) "policy" = some none)) 2 17 rfl rfl)
theorem rw_nCQnrows {K : PySem.W.Frag} (c : HM.Says exs fds K) : PySem.W.findIn K (.ref (He.ga K "Question")) "rows" = some none := of_decide_eq_true (c.row (f := fun K => decide (PySem.W.findIn K (.ref (He.ga K "Question")) "rows" = some none)) 2 18 rfl rfl)
theorem rw_gS {K : PySem.W.Frag} (c : HM.Says exs fds K) : PySem.W.nsIn K mainGlobals "SMALLEST_P" = some (some (.int 3 (HM.tokG K "SMALLEST_P"))) := of_decide_eq_true (c.row (f := fun K => decide (PySem.W.nsIn K mainGlobals "SMALLEST_P" = some (some (.int 3 (HM.tokG K "SMALLEST_P"))))) 2 19 rfl rfl)
theorem rw_gL {K : PySem.W.Frag} (c : HM.Says exs fds K) : PySem.W.nsIn K mainGlobals "LARGEST_P" = some (some (.int 1000000 (HM.tokG K "LARGEST_P"))) := of_decide_eq_true (c.row (f := fun K => decide (PySem.W.nsIn K mainGlobals "LARGEST_P" = some (some (.int 1000000 (HM.tokG K "LARGEST_P"))))) 3 0 rfl rfl)
theorem rw_gF {K : PySem.W.Frag} (c : HM.Says exs fds K) : PySem.W.nsIn K mainGlobals "FEWEST_BASES" = some (some (.int 2 (HM.tokG K "FEWEST_BASES"))) := of_decide_eq_true (c.row (f := fun K => decide (PySem.W.nsIn K mainGlobals "FEWEST_BASES" = some (some (.int 2 (HM.tokG K "FEWEST_BASES"))))) 3 1 rfl rfl)
theorem rw_gM {K : PySem.W.Frag} (c : HM.Says exs fds K) : PySem.W.nsIn K mainGlobals "MOST_BASES" = some (some (.int 12 (HM.tokG K "MOST_BASES"))) := of_decide_eq_true (c.row (f := fun K => decide (PySem.W.nsIn K mainGlobals "MOST_BASES" = some (some (.int 12 (HM.tokG K "MOST_BASES"))))) 3 2 rfl rfl)
theorem rw_a0 {K : PySem.W.Frag} (c : HM.Says exs fds K) : PySem.W.nsIn K mainGlobals "power" = some (some (.ref (He.fAd K ("power", none)))) := of_decide_eq_true (c.row (f := fun K => decide (PySem.W.nsIn K mainGlobals "power" = some (some (.ref (He.fAd K ("power", none)))))) 3 3 rfl rfl)
theorem rw_k0 {K : PySem.W.Frag} (c : HM.Says exs fds K) : PySem.W.keepIn K (.ref (He.fAd K ("power", none))) = true := of_decide_eq_true (c.row (f := fun K => decide (PySem.W.keepIn K (.ref (He.fAd K ("power", none))) = true)) 3 4 rfl rfl)
theorem rw_a1 {K : PySem.W.Frag} (c : HM.Says exs fds K) : PySem.W.nsIn K mainGlobals "is_prime" = some (some (.ref (He.fAd K ("is_prime", none)))) := of_decide_eq_true (c.row (f := fun K => decide (PySem.W.nsIn K mainGlobals "is_prime" = some (some (.ref (He.fAd K ("is_prime", none)))))) 3 5 rfl rfl)
theorem rw_k1 {K : PySem.W.Frag} (c : HM.Says exs fds K) : PySem.W.keepIn K (.ref (He.fAd K ("is_prime", none))) = true := of_decide_eq_true (c.row (f := fun K => decide (PySem.W.keepIn K (.ref (He.fAd K ("is_prime", none))) = true)) 3 6 rfl rfl)
theorem rw_a2 {K : PySem.W.Frag} (c : HM.Says exs fds K) : PySem.W.nsIn K mainGlobals "_is_root" = some (some (.ref (He.fAd K ("_is_root", none)))) := of_decide_eq_true (c.row (f := fun K => decide (PySem.W.nsIn K mainGlobals "_is_root" = some (some (.ref (He.fAd K ("_is_root", none)))))) 3 7 rfl rfl)
theorem rw_k2 {K : PySem.W.Frag} (c : HM.Says exs fds K) : PySem.W.keepIn K (.ref (He.fAd K ("_is_root", none))) = true := of_decide_eq_true (c.row (f := fun K => decide (PySem.W.keepIn K (.ref (He.fAd K ("_is_root", none))) = true)) 3 8 rfl rfl)
theorem rw_a3 {K : PySem.W.Frag} (c : HM.Says exs fds K) : PySem.W.nsIn K mainGlobals "_check_primes" = some (some (.ref (He.fAd K ("_check_primes", none)))) := of_decide_eq_true (c.row (f := fun K => decide (PySem.W.nsIn K mainGlobals "_check_primes" = some (some (.ref (He.fAd K ("_check_primes", none)))))) 3 9 rfl rfl)
theorem rw_k3 {K : PySem.W.Frag} (c : HM.Says exs fds K) : PySem.W.keepIn K (.ref (He.fAd K ("_check_primes", none))) = true := of_decide_eq_true (c.row (f := fun K => decide (PySem.W.keepIn K (.ref (He.fAd K ("_check_primes", none))) = true)) 3 10 rfl rfl)
theorem rw_a4 {K : PySem.W.Frag} (c : HM.Says exs fds K) : PySem.W.nsIn K mainGlobals "_check_bases" = some (some (.ref (He.fAd K ("_check_bases", none)))) := of_decide_eq_true (c.row (f := fun K => decide (PySem.W.nsIn K mainGlobals "_check_bases" = some (some (.ref (He.fAd K ("_check_bases", none)))))) 3 11 rfl rfl)
theorem rw_k4 {K : PySem.W.Frag} (c : HM.Says exs fds K) : PySem.W.keepIn K (.ref (He.fAd K ("_check_bases", none))) = true := of_decide_eq_true (c.row (f := fun K => decide (PySem.W.keepIn K (.ref (He.fAd K ("_check_bases", none))) = true)) 3 12 rfl rfl)
theorem rw_a5 {K : PySem.W.Frag} (c : HM.Says exs fds K) : PySem.W.findIn K (.ref (He.ga K "Group")) "__init__" = some (some (.ref (He.fAd K ("Group", some "__init__")))) := of_decide_eq_true (c.row (f := fun K => decide (PySem.W.findIn K (.ref (He.ga K "Group")) "__init__" = some (some (.ref (He.fAd K ("Group", some "__init__")))))) 3 13 rfl rfl)
theorem rw_i5 {K : PySem.W.Frag} (c : HM.Says exs fds K) : PySem.W.isFn K (.ref (He.fAd K ("Group", some "__init__"))) = true := of_decide_eq_true (c.row (f := fun K => decide (PySem.W.isFn K (.ref (He.fAd K ("Group", some "__init__"))) = true)) 3 14 rfl rfl)
theorem rw_k5 {K : PySem.W.Frag} (c : HM.Says exs fds K) : PySem.W.keepIn K (.ref (He.fAd K ("Group", some "__init__"))) = true := of_decide_eq_true (c.row (f := fun K => decide (PySem.W.keepIn K (.ref (He.fAd K ("Group", some "__init__"))) = true)) 3 15 rfl rfl)
theorem rw_a6 {K : PySem.W.Frag} (c : HM.Says exs fds K) : PySem.W.findIn K (.ref (He.ga K "Kind")) "__init__" = some (some (.ref (He.fAd K ("Kind", some "__init__")))) := of_decide_eq_true (c.row (f := fun K => decide (PySem.W.findIn K (.ref (He.ga K "Kind")) "__init__" = some (some (.ref (He.fAd K ("Kind", some "__init__")))))) 3 16 rfl rfl)
theorem rw_i6 {K : PySem.W.Frag} (c : HM.Says exs fds K) : PySem.W.isFn K (.ref (He.fAd K ("Kind", some "__init__"))) = true := of_decide_eq_true (c.row (f := fun K => decide (PySem.W.isFn K (.ref (He.fAd K ("Kind", some "__init__"))) = true)) 3 17 rfl rfl)
theorem rw_k6 {K : PySem.W.Frag} (c : HM.Says exs fds K) : PySem.W.keepIn K (.ref (He.fAd K ("Kind", some "__init__"))) = true := of_decide_eq_true (c.row (f := fun K => decide (PySem.W.keepIn K (.ref (He.fAd K ("Kind", some "__init__"))) = true)) 3 18 rfl rfl)
theorem rw_a7 {K : PySem.W.Frag} (c : HM.Says exs fds K) : PySem.W.nsIn K mainGlobals "_kept" = some (some (.ref (He.fAd K ("_kept", none)))) := of_decide_eq_true (c.row (f := fun K => decide (PySem.W.nsIn K mainGlobals "_kept" = some (some (.ref (He.fAd K ("_kept", none)))))) 3 19 rfl rfl)
theorem rw_k7 {K : PySem.W.Frag} (c : HM.Says exs fds K) : PySem.W.keepIn K (.ref (He.fAd K ("_kept", none))) = true := of_decide_eq_true (c.row (f := fun K => decide (PySem.W.keepIn K (.ref (He.fAd K ("_kept", none))) = true)) 4 0 rfl rfl)
theorem rw_a8 {K : PySem.W.Frag} (c : HM.Says exs fds K) : PySem.W.findIn K (.ref (He.ga K "Policy")) "__init__" = some (some (.ref (He.fAd K ("Policy", some "__init__")))) := of_decide_eq_true (c.row (f := fun K => decide (PySem.W.findIn K (.ref (He.ga K "Policy")) "__init__" = some (some (.ref (He.fAd K ("Policy", some "__init__")))))) 4 1 rfl rfl)
theorem rw_i8 {K : PySem.W.Frag} (c : HM.Says exs fds K) : PySem.W.isFn K (.ref (He.fAd K ("Policy", some "__init__"))) = true := of_decide_eq_true (c.row (f := fun K => decide (PySem.W.isFn K (.ref (He.fAd K ("Policy", some "__init__"))) = true)) 4 2 rfl rfl)
theorem rw_k8 {K : PySem.W.Frag} (c : HM.Says exs fds K) : PySem.W.keepIn K (.ref (He.fAd K ("Policy", some "__init__"))) = true := of_decide_eq_true (c.row (f := fun K => decide (PySem.W.keepIn K (.ref (He.fAd K ("Policy", some "__init__"))) = true)) 4 3 rfl rfl)
theorem rw_a9 {K : PySem.W.Frag} (c : HM.Says exs fds K) : PySem.W.findIn K (.ref (He.ga K "Question")) "__init__" = some (some (.ref (He.fAd K ("Question", some "__init__")))) := of_decide_eq_true (c.row (f := fun K => decide (PySem.W.findIn K (.ref (He.ga K "Question")) "__init__" = some (some (.ref (He.fAd K ("Question", some "__init__")))))) 4 4 rfl rfl)
theorem rw_i9 {K : PySem.W.Frag} (c : HM.Says exs fds K) : PySem.W.isFn K (.ref (He.fAd K ("Question", some "__init__"))) = true := of_decide_eq_true (c.row (f := fun K => decide (PySem.W.isFn K (.ref (He.fAd K ("Question", some "__init__"))) = true)) 4 5 rfl rfl)
theorem rw_k9 {K : PySem.W.Frag} (c : HM.Says exs fds K) : PySem.W.keepIn K (.ref (He.fAd K ("Question", some "__init__"))) = true := of_decide_eq_true (c.row (f := fun K => decide (PySem.W.keepIn K (.ref (He.fAd K ("Question", some "__init__"))) = true)) 4 6 rfl rfl)
theorem rw_a10 {K : PySem.W.Frag} (c : HM.Says exs fds K) : PySem.W.findIn K (.ref (He.ga K "Pick")) "__init__" = some (some (.ref (He.fAd K ("Pick", some "__init__")))) := of_decide_eq_true (c.row (f := fun K => decide (PySem.W.findIn K (.ref (He.ga K "Pick")) "__init__" = some (some (.ref (He.fAd K ("Pick", some "__init__")))))) 4 7 rfl rfl)
theorem rw_i10 {K : PySem.W.Frag} (c : HM.Says exs fds K) : PySem.W.isFn K (.ref (He.fAd K ("Pick", some "__init__"))) = true := of_decide_eq_true (c.row (f := fun K => decide (PySem.W.isFn K (.ref (He.fAd K ("Pick", some "__init__"))) = true)) 4 8 rfl rfl)
theorem rw_k10 {K : PySem.W.Frag} (c : HM.Says exs fds K) : PySem.W.keepIn K (.ref (He.fAd K ("Pick", some "__init__"))) = true := of_decide_eq_true (c.row (f := fun K => decide (PySem.W.keepIn K (.ref (He.fAd K ("Pick", some "__init__"))) = true)) 4 9 rfl rfl)
theorem rw_a11 {K : PySem.W.Frag} (c : HM.Says exs fds K) : PySem.W.nsIn K mainGlobals "fields_of" = some (some (.ref (He.fAd K ("fields_of", none)))) := of_decide_eq_true (c.row (f := fun K => decide (PySem.W.nsIn K mainGlobals "fields_of" = some (some (.ref (He.fAd K ("fields_of", none)))))) 4 10 rfl rfl)
theorem rw_k11 {K : PySem.W.Frag} (c : HM.Says exs fds K) : PySem.W.keepIn K (.ref (He.fAd K ("fields_of", none))) = true := of_decide_eq_true (c.row (f := fun K => decide (PySem.W.keepIn K (.ref (He.fAd K ("fields_of", none))) = true)) 4 11 rfl rfl)
theorem rw_a12 {K : PySem.W.Frag} (c : HM.Says exs fds K) : PySem.W.nsIn K mainGlobals "_place_named" = some (some (.ref (He.fAd K ("_place_named", none)))) := of_decide_eq_true (c.row (f := fun K => decide (PySem.W.nsIn K mainGlobals "_place_named" = some (some (.ref (He.fAd K ("_place_named", none)))))) 4 12 rfl rfl)
theorem rw_k12 {K : PySem.W.Frag} (c : HM.Says exs fds K) : PySem.W.keepIn K (.ref (He.fAd K ("_place_named", none))) = true := of_decide_eq_true (c.row (f := fun K => decide (PySem.W.keepIn K (.ref (He.fAd K ("_place_named", none))) = true)) 4 13 rfl rfl)
theorem rw_a13 {K : PySem.W.Frag} (c : HM.Says exs fds K) : PySem.W.nsIn K mainGlobals "conditions_of" = some (some (.ref (He.fAd K ("conditions_of", none)))) := of_decide_eq_true (c.row (f := fun K => decide (PySem.W.nsIn K mainGlobals "conditions_of" = some (some (.ref (He.fAd K ("conditions_of", none)))))) 4 14 rfl rfl)
theorem rw_k13 {K : PySem.W.Frag} (c : HM.Says exs fds K) : PySem.W.keepIn K (.ref (He.fAd K ("conditions_of", none))) = true := of_decide_eq_true (c.row (f := fun K => decide (PySem.W.keepIn K (.ref (He.fAd K ("conditions_of", none))) = true)) 4 15 rfl rfl)
theorem rw_a14 {K : PySem.W.Frag} (c : HM.Says exs fds K) : PySem.W.nsIn K mainGlobals "_lets" = some (some (.ref (He.fAd K ("_lets", none)))) := of_decide_eq_true (c.row (f := fun K => decide (PySem.W.nsIn K mainGlobals "_lets" = some (some (.ref (He.fAd K ("_lets", none)))))) 4 16 rfl rfl)
theorem rw_k14 {K : PySem.W.Frag} (c : HM.Says exs fds K) : PySem.W.keepIn K (.ref (He.fAd K ("_lets", none))) = true := of_decide_eq_true (c.row (f := fun K => decide (PySem.W.keepIn K (.ref (He.fAd K ("_lets", none))) = true)) 4 17 rfl rfl)
theorem rw_a15 {K : PySem.W.Frag} (c : HM.Says exs fds K) : PySem.W.nsIn K mainGlobals "meet_conditions" = some (some (.ref (He.fAd K ("meet_conditions", none)))) := of_decide_eq_true (c.row (f := fun K => decide (PySem.W.nsIn K mainGlobals "meet_conditions" = some (some (.ref (He.fAd K ("meet_conditions", none)))))) 4 18 rfl rfl)
theorem rw_k15 {K : PySem.W.Frag} (c : HM.Says exs fds K) : PySem.W.keepIn K (.ref (He.fAd K ("meet_conditions", none))) = true := of_decide_eq_true (c.row (f := fun K => decide (PySem.W.keepIn K (.ref (He.fAd K ("meet_conditions", none))) = true)) 4 19 rfl rfl)
theorem rw_a16 {K : PySem.W.Frag} (c : HM.Says exs fds K) : PySem.W.nsIn K mainGlobals "answers" = some (some (.ref (He.fAd K ("answers", none)))) := of_decide_eq_true (c.row (f := fun K => decide (PySem.W.nsIn K mainGlobals "answers" = some (some (.ref (He.fAd K ("answers", none)))))) 5 0 rfl rfl)
theorem rw_k16 {K : PySem.W.Frag} (c : HM.Says exs fds K) : PySem.W.keepIn K (.ref (He.fAd K ("answers", none))) = true := of_decide_eq_true (c.row (f := fun K => decide (PySem.W.keepIn K (.ref (He.fAd K ("answers", none))) = true)) 5 1 rfl rfl)
theorem rw_a17 {K : PySem.W.Frag} (c : HM.Says exs fds K) : PySem.W.nsIn K mainGlobals "_first_answer" = some (some (.ref (He.fAd K ("_first_answer", none)))) := of_decide_eq_true (c.row (f := fun K => decide (PySem.W.nsIn K mainGlobals "_first_answer" = some (some (.ref (He.fAd K ("_first_answer", none)))))) 5 2 rfl rfl)
theorem rw_k17 {K : PySem.W.Frag} (c : HM.Says exs fds K) : PySem.W.keepIn K (.ref (He.fAd K ("_first_answer", none))) = true := of_decide_eq_true (c.row (f := fun K => decide (PySem.W.keepIn K (.ref (He.fAd K ("_first_answer", none))) = true)) 5 3 rfl rfl)
theorem rw_a18 {K : PySem.W.Frag} (c : HM.Says exs fds K) : PySem.W.findIn K (.ref (He.ga K "Wallet")) "_candidates" = some (some (.ref (He.fAd K ("Wallet", some "_candidates")))) := of_decide_eq_true (c.row (f := fun K => decide (PySem.W.findIn K (.ref (He.ga K "Wallet")) "_candidates" = some (some (.ref (He.fAd K ("Wallet", some "_candidates")))))) 5 4 rfl rfl)
theorem rw_i18 {K : PySem.W.Frag} (c : HM.Says exs fds K) : PySem.W.isFn K (.ref (He.fAd K ("Wallet", some "_candidates"))) = true := of_decide_eq_true (c.row (f := fun K => decide (PySem.W.isFn K (.ref (He.fAd K ("Wallet", some "_candidates"))) = true)) 5 5 rfl rfl)
theorem rw_k18 {K : PySem.W.Frag} (c : HM.Says exs fds K) : PySem.W.keepIn K (.ref (He.fAd K ("Wallet", some "_candidates"))) = true := of_decide_eq_true (c.row (f := fun K => decide (PySem.W.keepIn K (.ref (He.fAd K ("Wallet", some "_candidates"))) = true)) 5 6 rfl rfl)
theorem rw_a19 {K : PySem.W.Frag} (c : HM.Says exs fds K) : PySem.W.findIn K (.ref (He.ga K "Wallet")) "picks" = some (some (.ref (He.fAd K ("Wallet", some "picks")))) := of_decide_eq_true (c.row (f := fun K => decide (PySem.W.findIn K (.ref (He.ga K "Wallet")) "picks" = some (some (.ref (He.fAd K ("Wallet", some "picks")))))) 5 7 rfl rfl)
theorem rw_i19 {K : PySem.W.Frag} (c : HM.Says exs fds K) : PySem.W.isFn K (.ref (He.fAd K ("Wallet", some "picks"))) = true := of_decide_eq_true (c.row (f := fun K => decide (PySem.W.isFn K (.ref (He.fAd K ("Wallet", some "picks"))) = true)) 5 8 rfl rfl)
theorem rw_k19 {K : PySem.W.Frag} (c : HM.Says exs fds K) : PySem.W.keepIn K (.ref (He.fAd K ("Wallet", some "picks"))) = true := of_decide_eq_true (c.row (f := fun K => decide (PySem.W.keepIn K (.ref (He.fAd K ("Wallet", some "picks"))) = true)) 5 9 rfl rfl)
theorem rw_a20 {K : PySem.W.Frag} (c : HM.Says exs fds K) : PySem.W.findIn K (.ref (He.ga K "Wallet")) "__init__" = some (some (.ref (He.fAd K ("Wallet", some "__init__")))) := of_decide_eq_true (c.row (f := fun K => decide (PySem.W.findIn K (.ref (He.ga K "Wallet")) "__init__" = some (some (.ref (He.fAd K ("Wallet", some "__init__")))))) 5 10 rfl rfl)
theorem rw_i20 {K : PySem.W.Frag} (c : HM.Says exs fds K) : PySem.W.isFn K (.ref (He.fAd K ("Wallet", some "__init__"))) = true := of_decide_eq_true (c.row (f := fun K => decide (PySem.W.isFn K (.ref (He.fAd K ("Wallet", some "__init__"))) = true)) 5 11 rfl rfl)
theorem rw_k20 {K : PySem.W.Frag} (c : HM.Says exs fds K) : PySem.W.keepIn K (.ref (He.fAd K ("Wallet", some "__init__"))) = true := of_decide_eq_true (c.row (f := fun K => decide (PySem.W.keepIn K (.ref (He.fAd K ("Wallet", some "__init__"))) = true)) 5 12 rfl rfl)
theorem rw_a21 {K : PySem.W.Frag} (c : HM.Says exs fds K) : PySem.W.findIn K (.ref (He.ga K "Wallet")) "keep" = some (some (.ref (He.fAd K ("Wallet", some "keep")))) := of_decide_eq_true (c.row (f := fun K => decide (PySem.W.findIn K (.ref (He.ga K "Wallet")) "keep" = some (some (.ref (He.fAd K ("Wallet", some "keep")))))) 5 13 rfl rfl)
theorem rw_i21 {K : PySem.W.Frag} (c : HM.Says exs fds K) : PySem.W.isFn K (.ref (He.fAd K ("Wallet", some "keep"))) = true := of_decide_eq_true (c.row (f := fun K => decide (PySem.W.isFn K (.ref (He.fAd K ("Wallet", some "keep"))) = true)) 5 14 rfl rfl)
theorem rw_k21 {K : PySem.W.Frag} (c : HM.Says exs fds K) : PySem.W.keepIn K (.ref (He.fAd K ("Wallet", some "keep"))) = true := of_decide_eq_true (c.row (f := fun K => decide (PySem.W.keepIn K (.ref (He.fAd K ("Wallet", some "keep"))) = true)) 5 15 rfl rfl)
theorem rw_a22 {K : PySem.W.Frag} (c : HM.Says exs fds K) : PySem.W.nsIn K mainGlobals "_law_pool" = some (some (.ref (He.fAd K ("_law_pool", none)))) := of_decide_eq_true (c.row (f := fun K => decide (PySem.W.nsIn K mainGlobals "_law_pool" = some (some (.ref (He.fAd K ("_law_pool", none)))))) 5 16 rfl rfl)
theorem rw_k22 {K : PySem.W.Frag} (c : HM.Says exs fds K) : PySem.W.keepIn K (.ref (He.fAd K ("_law_pool", none))) = true := of_decide_eq_true (c.row (f := fun K => decide (PySem.W.keepIn K (.ref (He.fAd K ("_law_pool", none))) = true)) 5 17 rfl rfl)
theorem rw_a23 {K : PySem.W.Frag} (c : HM.Says exs fds K) : PySem.W.nsIn K mainGlobals "_law_draw" = some (some (.ref (He.fAd K ("_law_draw", none)))) := of_decide_eq_true (c.row (f := fun K => decide (PySem.W.nsIn K mainGlobals "_law_draw" = some (some (.ref (He.fAd K ("_law_draw", none)))))) 5 18 rfl rfl)
theorem rw_k23 {K : PySem.W.Frag} (c : HM.Says exs fds K) : PySem.W.keepIn K (.ref (He.fAd K ("_law_draw", none))) = true := of_decide_eq_true (c.row (f := fun K => decide (PySem.W.keepIn K (.ref (He.fAd K ("_law_draw", none))) = true)) 5 19 rfl rfl)
theorem rw_a24 {K : PySem.W.Frag} (c : HM.Says exs fds K) : PySem.W.nsIn K mainGlobals "_law_same" = some (some (.ref (He.fAd K ("_law_same", none)))) := of_decide_eq_true (c.row (f := fun K => decide (PySem.W.nsIn K mainGlobals "_law_same" = some (some (.ref (He.fAd K ("_law_same", none)))))) 6 0 rfl rfl)
theorem rw_k24 {K : PySem.W.Frag} (c : HM.Says exs fds K) : PySem.W.keepIn K (.ref (He.fAd K ("_law_same", none))) = true := of_decide_eq_true (c.row (f := fun K => decide (PySem.W.keepIn K (.ref (He.fAd K ("_law_same", none))) = true)) 6 1 rfl rfl)
theorem rw_a25 {K : PySem.W.Frag} (c : HM.Says exs fds K) : PySem.W.nsIn K mainGlobals "_law_power" = some (some (.ref (He.fAd K ("_law_power", none)))) := of_decide_eq_true (c.row (f := fun K => decide (PySem.W.nsIn K mainGlobals "_law_power" = some (some (.ref (He.fAd K ("_law_power", none)))))) 6 2 rfl rfl)
theorem rw_k25 {K : PySem.W.Frag} (c : HM.Says exs fds K) : PySem.W.keepIn K (.ref (He.fAd K ("_law_power", none))) = true := of_decide_eq_true (c.row (f := fun K => decide (PySem.W.keepIn K (.ref (He.fAd K ("_law_power", none))) = true)) 6 3 rfl rfl)
theorem rw_a26 {K : PySem.W.Frag} (c : HM.Says exs fds K) : PySem.W.nsIn K mainGlobals "_law_raised" = some (some (.ref (He.fAd K ("_law_raised", none)))) := of_decide_eq_true (c.row (f := fun K => decide (PySem.W.nsIn K mainGlobals "_law_raised" = some (some (.ref (He.fAd K ("_law_raised", none)))))) 6 4 rfl rfl)
theorem rw_k26 {K : PySem.W.Frag} (c : HM.Says exs fds K) : PySem.W.keepIn K (.ref (He.fAd K ("_law_raised", none))) = true := of_decide_eq_true (c.row (f := fun K => decide (PySem.W.keepIn K (.ref (He.fAd K ("_law_raised", none))) = true)) 6 5 rfl rfl)
theorem rw_a27 {K : PySem.W.Frag} (c : HM.Says exs fds K) : PySem.W.nsIn K mainGlobals "_law_product" = some (some (.ref (He.fAd K ("_law_product", none)))) := of_decide_eq_true (c.row (f := fun K => decide (PySem.W.nsIn K mainGlobals "_law_product" = some (some (.ref (He.fAd K ("_law_product", none)))))) 6 6 rfl rfl)
theorem rw_k27 {K : PySem.W.Frag} (c : HM.Says exs fds K) : PySem.W.keepIn K (.ref (He.fAd K ("_law_product", none))) = true := of_decide_eq_true (c.row (f := fun K => decide (PySem.W.keepIn K (.ref (He.fAd K ("_law_product", none))) = true)) 6 7 rfl rfl)
theorem rw_a28 {K : PySem.W.Frag} (c : HM.Says exs fds K) : PySem.W.nsIn K mainGlobals "_law_commit" = some (some (.ref (He.fAd K ("_law_commit", none)))) := of_decide_eq_true (c.row (f := fun K => decide (PySem.W.nsIn K mainGlobals "_law_commit" = some (some (.ref (He.fAd K ("_law_commit", none)))))) 6 8 rfl rfl)
theorem rw_k28 {K : PySem.W.Frag} (c : HM.Says exs fds K) : PySem.W.keepIn K (.ref (He.fAd K ("_law_commit", none))) = true := of_decide_eq_true (c.row (f := fun K => decide (PySem.W.keepIn K (.ref (He.fAd K ("_law_commit", none))) = true)) 6 9 rfl rfl)
theorem rw_a29 {K : PySem.W.Frag} (c : HM.Says exs fds K) : PySem.W.nsIn K mainGlobals "_law_group" = some (some (.ref (He.fAd K ("_law_group", none)))) := of_decide_eq_true (c.row (f := fun K => decide (PySem.W.nsIn K mainGlobals "_law_group" = some (some (.ref (He.fAd K ("_law_group", none)))))) 6 10 rfl rfl)
theorem rw_k29 {K : PySem.W.Frag} (c : HM.Says exs fds K) : PySem.W.keepIn K (.ref (He.fAd K ("_law_group", none))) = true := of_decide_eq_true (c.row (f := fun K => decide (PySem.W.keepIn K (.ref (He.fAd K ("_law_group", none))) = true)) 6 11 rfl rfl)
theorem rw_a30 {K : PySem.W.Frag} (c : HM.Says exs fds K) : PySem.W.nsIn K mainGlobals "_law_numbers" = some (some (.ref (He.fAd K ("_law_numbers", none)))) := of_decide_eq_true (c.row (f := fun K => decide (PySem.W.nsIn K mainGlobals "_law_numbers" = some (some (.ref (He.fAd K ("_law_numbers", none)))))) 6 12 rfl rfl)
theorem rw_k30 {K : PySem.W.Frag} (c : HM.Says exs fds K) : PySem.W.keepIn K (.ref (He.fAd K ("_law_numbers", none))) = true := of_decide_eq_true (c.row (f := fun K => decide (PySem.W.keepIn K (.ref (He.fAd K ("_law_numbers", none))) = true)) 6 13 rfl rfl)
theorem rw_a31 {K : PySem.W.Frag} (c : HM.Says exs fds K) : PySem.W.nsIn K mainGlobals "_law_kinds" = some (some (.ref (He.fAd K ("_law_kinds", none)))) := of_decide_eq_true (c.row (f := fun K => decide (PySem.W.nsIn K mainGlobals "_law_kinds" = some (some (.ref (He.fAd K ("_law_kinds", none)))))) 6 14 rfl rfl)
theorem rw_k31 {K : PySem.W.Frag} (c : HM.Says exs fds K) : PySem.W.keepIn K (.ref (He.fAd K ("_law_kinds", none))) = true := of_decide_eq_true (c.row (f := fun K => decide (PySem.W.keepIn K (.ref (He.fAd K ("_law_kinds", none))) = true)) 6 15 rfl rfl)
theorem rw_a32 {K : PySem.W.Frag} (c : HM.Says exs fds K) : PySem.W.nsIn K mainGlobals "_law_rows" = some (some (.ref (He.fAd K ("_law_rows", none)))) := of_decide_eq_true (c.row (f := fun K => decide (PySem.W.nsIn K mainGlobals "_law_rows" = some (some (.ref (He.fAd K ("_law_rows", none)))))) 6 16 rfl rfl)
theorem rw_k32 {K : PySem.W.Frag} (c : HM.Says exs fds K) : PySem.W.keepIn K (.ref (He.fAd K ("_law_rows", none))) = true := of_decide_eq_true (c.row (f := fun K => decide (PySem.W.keepIn K (.ref (He.fAd K ("_law_rows", none))) = true)) 6 17 rfl rfl)
theorem rw_a33 {K : PySem.W.Frag} (c : HM.Says exs fds K) : PySem.W.nsIn K mainGlobals "_law_fields" = some (some (.ref (He.fAd K ("_law_fields", none)))) := of_decide_eq_true (c.row (f := fun K => decide (PySem.W.nsIn K mainGlobals "_law_fields" = some (some (.ref (He.fAd K ("_law_fields", none)))))) 6 18 rfl rfl)
theorem rw_k33 {K : PySem.W.Frag} (c : HM.Says exs fds K) : PySem.W.keepIn K (.ref (He.fAd K ("_law_fields", none))) = true := of_decide_eq_true (c.row (f := fun K => decide (PySem.W.keepIn K (.ref (He.fAd K ("_law_fields", none))) = true)) 6 19 rfl rfl)
theorem rw_a34 {K : PySem.W.Frag} (c : HM.Says exs fds K) : PySem.W.nsIn K mainGlobals "_law_condition" = some (some (.ref (He.fAd K ("_law_condition", none)))) := of_decide_eq_true (c.row (f := fun K => decide (PySem.W.nsIn K mainGlobals "_law_condition" = some (some (.ref (He.fAd K ("_law_condition", none)))))) 7 0 rfl rfl)
theorem rw_k34 {K : PySem.W.Frag} (c : HM.Says exs fds K) : PySem.W.keepIn K (.ref (He.fAd K ("_law_condition", none))) = true := of_decide_eq_true (c.row (f := fun K => decide (PySem.W.keepIn K (.ref (He.fAd K ("_law_condition", none))) = true)) 7 1 rfl rfl)
theorem rw_a35 {K : PySem.W.Frag} (c : HM.Says exs fds K) : PySem.W.nsIn K mainGlobals "_law_scene" = some (some (.ref (He.fAd K ("_law_scene", none)))) := of_decide_eq_true (c.row (f := fun K => decide (PySem.W.nsIn K mainGlobals "_law_scene" = some (some (.ref (He.fAd K ("_law_scene", none)))))) 7 2 rfl rfl)
theorem rw_k35 {K : PySem.W.Frag} (c : HM.Says exs fds K) : PySem.W.keepIn K (.ref (He.fAd K ("_law_scene", none))) = true := of_decide_eq_true (c.row (f := fun K => decide (PySem.W.keepIn K (.ref (He.fAd K ("_law_scene", none))) = true)) 7 3 rfl rfl)
theorem rw_a36 {K : PySem.W.Frag} (c : HM.Says exs fds K) : PySem.W.nsIn K mainGlobals "_law_question" = some (some (.ref (He.fAd K ("_law_question", none)))) := of_decide_eq_true (c.row (f := fun K => decide (PySem.W.nsIn K mainGlobals "_law_question" = some (some (.ref (He.fAd K ("_law_question", none)))))) 7 4 rfl rfl)
theorem rw_k36 {K : PySem.W.Frag} (c : HM.Says exs fds K) : PySem.W.keepIn K (.ref (He.fAd K ("_law_question", none))) = true := of_decide_eq_true (c.row (f := fun K => decide (PySem.W.keepIn K (.ref (He.fAd K ("_law_question", none))) = true)) 7 5 rfl rfl)
theorem rw_a37 {K : PySem.W.Frag} (c : HM.Says exs fds K) : PySem.W.nsIn K mainGlobals "_law_place" = some (some (.ref (He.fAd K ("_law_place", none)))) := of_decide_eq_true (c.row (f := fun K => decide (PySem.W.nsIn K mainGlobals "_law_place" = some (some (.ref (He.fAd K ("_law_place", none)))))) 7 6 rfl rfl)
theorem rw_k37 {K : PySem.W.Frag} (c : HM.Says exs fds K) : PySem.W.keepIn K (.ref (He.fAd K ("_law_place", none))) = true := of_decide_eq_true (c.row (f := fun K => decide (PySem.W.keepIn K (.ref (He.fAd K ("_law_place", none))) = true)) 7 7 rfl rfl)
theorem rw_a38 {K : PySem.W.Frag} (c : HM.Says exs fds K) : PySem.W.nsIn K mainGlobals "_law_sizes" = some (some (.ref (He.fAd K ("_law_sizes", none)))) := of_decide_eq_true (c.row (f := fun K => decide (PySem.W.nsIn K mainGlobals "_law_sizes" = some (some (.ref (He.fAd K ("_law_sizes", none)))))) 7 8 rfl rfl)
theorem rw_k38 {K : PySem.W.Frag} (c : HM.Says exs fds K) : PySem.W.keepIn K (.ref (He.fAd K ("_law_sizes", none))) = true := of_decide_eq_true (c.row (f := fun K => decide (PySem.W.keepIn K (.ref (He.fAd K ("_law_sizes", none))) = true)) 7 9 rfl rfl)
theorem rw_a39 {K : PySem.W.Frag} (c : HM.Says exs fds K) : PySem.W.nsIn K mainGlobals "_law_allowed" = some (some (.ref (He.fAd K ("_law_allowed", none)))) := of_decide_eq_true (c.row (f := fun K => decide (PySem.W.nsIn K mainGlobals "_law_allowed" = some (some (.ref (He.fAd K ("_law_allowed", none)))))) 7 10 rfl rfl)
theorem rw_k39 {K : PySem.W.Frag} (c : HM.Says exs fds K) : PySem.W.keepIn K (.ref (He.fAd K ("_law_allowed", none))) = true := of_decide_eq_true (c.row (f := fun K => decide (PySem.W.keepIn K (.ref (He.fAd K ("_law_allowed", none))) = true)) 7 11 rfl rfl)
theorem rw_a40 {K : PySem.W.Frag} (c : HM.Says exs fds K) : PySem.W.nsIn K mainGlobals "_law_answers" = some (some (.ref (He.fAd K ("_law_answers", none)))) := of_decide_eq_true (c.row (f := fun K => decide (PySem.W.nsIn K mainGlobals "_law_answers" = some (some (.ref (He.fAd K ("_law_answers", none)))))) 7 12 rfl rfl)
theorem rw_k40 {K : PySem.W.Frag} (c : HM.Says exs fds K) : PySem.W.keepIn K (.ref (He.fAd K ("_law_answers", none))) = true := of_decide_eq_true (c.row (f := fun K => decide (PySem.W.keepIn K (.ref (He.fAd K ("_law_answers", none))) = true)) 7 13 rfl rfl)
theorem rw_a41 {K : PySem.W.Frag} (c : HM.Says exs fds K) : PySem.W.nsIn K mainGlobals "_law_holdings" = some (some (.ref (He.fAd K ("_law_holdings", none)))) := of_decide_eq_true (c.row (f := fun K => decide (PySem.W.nsIn K mainGlobals "_law_holdings" = some (some (.ref (He.fAd K ("_law_holdings", none)))))) 7 14 rfl rfl)
theorem rw_k41 {K : PySem.W.Frag} (c : HM.Says exs fds K) : PySem.W.keepIn K (.ref (He.fAd K ("_law_holdings", none))) = true := of_decide_eq_true (c.row (f := fun K => decide (PySem.W.keepIn K (.ref (He.fAd K ("_law_holdings", none))) = true)) 7 15 rfl rfl)
theorem rw_a42 {K : PySem.W.Frag} (c : HM.Says exs fds K) : PySem.W.nsIn K mainGlobals "_law_first" = some (some (.ref (He.fAd K ("_law_first", none)))) := of_decide_eq_true (c.row (f := fun K => decide (PySem.W.nsIn K mainGlobals "_law_first" = some (some (.ref (He.fAd K ("_law_first", none)))))) 7 16 rfl rfl)
theorem rw_k42 {K : PySem.W.Frag} (c : HM.Says exs fds K) : PySem.W.keepIn K (.ref (He.fAd K ("_law_first", none))) = true := of_decide_eq_true (c.row (f := fun K => decide (PySem.W.keepIn K (.ref (He.fAd K ("_law_first", none))) = true)) 7 17 rfl rfl)
theorem rw_a43 {K : PySem.W.Frag} (c : HM.Says exs fds K) : PySem.W.nsIn K mainGlobals "law" = some (some (.ref (He.fAd K ("law", none)))) := of_decide_eq_true (c.row (f := fun K => decide (PySem.W.nsIn K mainGlobals "law" = some (some (.ref (He.fAd K ("law", none)))))) 7 18 rfl rfl)
theorem rw_k43 {K : PySem.W.Frag} (c : HM.Says exs fds K) : PySem.W.keepIn K (.ref (He.fAd K ("law", none))) = true := of_decide_eq_true (c.row (f := fun K => decide (PySem.W.keepIn K (.ref (He.fAd K ("law", none))) = true)) 7 19 rfl rfl)
theorem rw_z_isinstance {K : PySem.W.Frag} (c : HM.Says exs fds K) : PySem.W.nsIn K mainGlobals "isinstance" = some none := of_decide_eq_true (c.row (f := fun K => decide (PySem.W.nsIn K mainGlobals "isinstance" = some none)) 8 0 rfl rfl)
theorem rw_z_len {K : PySem.W.Frag} (c : HM.Says exs fds K) : PySem.W.nsIn K mainGlobals "len" = some none := of_decide_eq_true (c.row (f := fun K => decide (PySem.W.nsIn K mainGlobals "len" = some none)) 8 1 rfl rfl)
theorem rw_z_sum {K : PySem.W.Frag} (c : HM.Says exs fds K) : PySem.W.nsIn K mainGlobals "sum" = some none := of_decide_eq_true (c.row (f := fun K => decide (PySem.W.nsIn K mainGlobals "sum" = some none)) 8 2 rfl rfl)
theorem rw_z_max {K : PySem.W.Frag} (c : HM.Says exs fds K) : PySem.W.nsIn K mainGlobals "max" = some none := of_decide_eq_true (c.row (f := fun K => decide (PySem.W.nsIn K mainGlobals "max" = some none)) 8 3 rfl rfl)
theorem rw_z_min {K : PySem.W.Frag} (c : HM.Says exs fds K) : PySem.W.nsIn K mainGlobals "min" = some none := of_decide_eq_true (c.row (f := fun K => decide (PySem.W.nsIn K mainGlobals "min" = some none)) 8 4 rfl rfl)
theorem rw_z_abs {K : PySem.W.Frag} (c : HM.Says exs fds K) : PySem.W.nsIn K mainGlobals "abs" = some none := of_decide_eq_true (c.row (f := fun K => decide (PySem.W.nsIn K mainGlobals "abs" = some none)) 8 5 rfl rfl)
theorem rw_z_any {K : PySem.W.Frag} (c : HM.Says exs fds K) : PySem.W.nsIn K mainGlobals "any" = some none := of_decide_eq_true (c.row (f := fun K => decide (PySem.W.nsIn K mainGlobals "any" = some none)) 8 6 rfl rfl)
theorem rw_z_all {K : PySem.W.Frag} (c : HM.Says exs fds K) : PySem.W.nsIn K mainGlobals "all" = some none := of_decide_eq_true (c.row (f := fun K => decide (PySem.W.nsIn K mainGlobals "all" = some none)) 8 7 rfl rfl)
theorem rw_z_sorted {K : PySem.W.Frag} (c : HM.Says exs fds K) : PySem.W.nsIn K mainGlobals "sorted" = some none := of_decide_eq_true (c.row (f := fun K => decide (PySem.W.nsIn K mainGlobals "sorted" = some none)) 8 8 rfl rfl)
theorem rw_z_int {K : PySem.W.Frag} (c : HM.Says exs fds K) : PySem.W.nsIn K mainGlobals "int" = some none := of_decide_eq_true (c.row (f := fun K => decide (PySem.W.nsIn K mainGlobals "int" = some none)) 8 9 rfl rfl)
theorem rw_z_bool {K : PySem.W.Frag} (c : HM.Says exs fds K) : PySem.W.nsIn K mainGlobals "bool" = some none := of_decide_eq_true (c.row (f := fun K => decide (PySem.W.nsIn K mainGlobals "bool" = some none)) 8 10 rfl rfl)
theorem rw_z_str {K : PySem.W.Frag} (c : HM.Says exs fds K) : PySem.W.nsIn K mainGlobals "str" = some none := of_decide_eq_true (c.row (f := fun K => decide (PySem.W.nsIn K mainGlobals "str" = some none)) 8 11 rfl rfl)
theorem rw_z_list {K : PySem.W.Frag} (c : HM.Says exs fds K) : PySem.W.nsIn K mainGlobals "list" = some none := of_decide_eq_true (c.row (f := fun K => decide (PySem.W.nsIn K mainGlobals "list" = some none)) 8 12 rfl rfl)
theorem rw_z_tuple {K : PySem.W.Frag} (c : HM.Says exs fds K) : PySem.W.nsIn K mainGlobals "tuple" = some none := of_decide_eq_true (c.row (f := fun K => decide (PySem.W.nsIn K mainGlobals "tuple" = some none)) 8 13 rfl rfl)
theorem rw_z_dict {K : PySem.W.Frag} (c : HM.Says exs fds K) : PySem.W.nsIn K mainGlobals "dict" = some none := of_decide_eq_true (c.row (f := fun K => decide (PySem.W.nsIn K mainGlobals "dict" = some none)) 8 14 rfl rfl)
theorem rw_z_range {K : PySem.W.Frag} (c : HM.Says exs fds K) : PySem.W.nsIn K mainGlobals "range" = some none := of_decide_eq_true (c.row (f := fun K => decide (PySem.W.nsIn K mainGlobals "range" = some none)) 8 15 rfl rfl)
theorem rw_z_enumerate {K : PySem.W.Frag} (c : HM.Says exs fds K) : PySem.W.nsIn K mainGlobals "enumerate" = some none := of_decide_eq_true (c.row (f := fun K => decide (PySem.W.nsIn K mainGlobals "enumerate" = some none)) 8 16 rfl rfl)
theorem rw_z_zip {K : PySem.W.Frag} (c : HM.Says exs fds K) : PySem.W.nsIn K mainGlobals "zip" = some none := of_decide_eq_true (c.row (f := fun K => decide (PySem.W.nsIn K mainGlobals "zip" = some none)) 8 17 rfl rfl)
set_option maxHeartbeats 0 in
theorem fin {l : PySem.W.OpenLaw} {w : World} {K : PySem.W.Frag} {h : Heap} {mg : Str → Option Value} {fa : Addr} (X : K.In h) (G : h.Ns mainGlobals mg) (hfa : mg "law" = some (.ref fa)) (c : HM.Says exs fds K) :
    ∃ fd : FuncData, (∀ (s : Shared) (v : Value), BindsTo s fd ⟨[v], []⟩ [("script", v)]) ∧ ∀ base : Heap, K.In base → base.Ns mainGlobals mg → FnOk l.prog w K mg base CX0 15 fa fd ["script"] (spLaw K) := by
  obtain ⟨oc0, od0, sl0, kV0, dc0, pm0, an0, cd0, ct0, l0, c0⟩ := c.def_ 0 (d := fd0) rfl
  obtain ⟨oc1, od1, sl1, kV1, dc1, pm1, an1, cd1, ct1, l1, c1⟩ := c.def_ 1 (d := fd1) rfl
  obtain ⟨oc2, od2, sl2, kV2, dc2, pm2, an2, cd2, ct2, l2, c2⟩ := c.def_ 2 (d := fd2) rfl
  obtain ⟨oc3, od3, sl3, kV3, dc3, pm3, an3, cd3, ct3, l3, c3⟩ := c.def_ 3 (d := fd3) rfl
  obtain ⟨oc4, od4, sl4, kV4, dc4, pm4, an4, cd4, ct4, l4, c4⟩ := c.def_ 4 (d := fd4) rfl
  obtain ⟨oc5, od5, sl5, kV5, dc5, pm5, an5, cd5, ct5, l5, c5⟩ := c.def_ 5 (d := fd5) rfl
  obtain ⟨oc6, od6, sl6, kV6, dc6, pm6, an6, cd6, ct6, l6, c6⟩ := c.def_ 6 (d := fd6) rfl
  obtain ⟨oc7, od7, sl7, kV7, dc7, pm7, an7, cd7, ct7, l7, c7⟩ := c.def_ 7 (d := fd7) rfl
  obtain ⟨oc8, od8, sl8, kV8, dc8, pm8, an8, cd8, ct8, l8, c8⟩ := c.def_ 8 (d := fd8) rfl
  obtain ⟨oc9, od9, sl9, kV9, dc9, pm9, an9, cd9, ct9, l9, c9⟩ := c.def_ 9 (d := fd9) rfl
  obtain ⟨oc10, od10, sl10, kV10, dc10, pm10, an10, cd10, ct10, l10, c10⟩ := c.def_ 10 (d := fd10) rfl
  obtain ⟨oc11, od11, sl11, kV11, dc11, pm11, an11, cd11, ct11, l11, c11⟩ := c.def_ 11 (d := fd11) rfl
  obtain ⟨oc12, od12, sl12, kV12, dc12, pm12, an12, cd12, ct12, l12, c12⟩ := c.def_ 12 (d := fd12) rfl
  obtain ⟨oc13, od13, sl13, kV13, dc13, pm13, an13, cd13, ct13, l13, c13⟩ := c.def_ 13 (d := fd13) rfl
  obtain ⟨oc14, od14, sl14, kV14, dc14, pm14, an14, cd14, ct14, l14, c14⟩ := c.def_ 14 (d := fd14) rfl
  obtain ⟨oc15, od15, sl15, kV15, dc15, pm15, an15, cd15, ct15, l15, c15⟩ := c.def_ 15 (d := fd15) rfl
  obtain ⟨oc16, od16, sl16, kV16, dc16, pm16, an16, cd16, ct16, l16, c16⟩ := c.def_ 16 (d := fd16) rfl
  obtain ⟨oc17, od17, sl17, kV17, dc17, pm17, an17, cd17, ct17, l17, c17⟩ := c.def_ 17 (d := fd17) rfl
  obtain ⟨oc18, od18, sl18, kV18, dc18, pm18, an18, cd18, ct18, l18, c18⟩ := c.def_ 18 (d := fd18) rfl
  obtain ⟨oc19, od19, sl19, kV19, dc19, pm19, an19, cd19, ct19, l19, c19⟩ := c.def_ 19 (d := fd19) rfl
  obtain ⟨oc20, od20, sl20, kV20, dc20, pm20, an20, cd20, ct20, l20, c20⟩ := c.def_ 20 (d := fd20) rfl
  obtain ⟨oc21, od21, sl21, kV21, dc21, pm21, an21, cd21, ct21, l21, c21⟩ := c.def_ 21 (d := fd21) rfl
  obtain ⟨oc22, od22, sl22, kV22, dc22, pm22, an22, cd22, ct22, l22, c22⟩ := c.def_ 22 (d := fd22) rfl
  obtain ⟨oc23, od23, sl23, kV23, dc23, pm23, an23, cd23, ct23, l23, c23⟩ := c.def_ 23 (d := fd23) rfl
  obtain ⟨oc24, od24, sl24, kV24, dc24, pm24, an24, cd24, ct24, l24, c24⟩ := c.def_ 24 (d := fd24) rfl
  obtain ⟨oc25, od25, sl25, kV25, dc25, pm25, an25, cd25, ct25, l25, c25⟩ := c.def_ 25 (d := fd25) rfl
  obtain ⟨oc26, od26, sl26, kV26, dc26, pm26, an26, cd26, ct26, l26, c26⟩ := c.def_ 26 (d := fd26) rfl
  obtain ⟨oc27, od27, sl27, kV27, dc27, pm27, an27, cd27, ct27, l27, c27⟩ := c.def_ 27 (d := fd27) rfl
  obtain ⟨oc28, od28, sl28, kV28, dc28, pm28, an28, cd28, ct28, l28, c28⟩ := c.def_ 28 (d := fd28) rfl
  obtain ⟨oc29, od29, sl29, kV29, dc29, pm29, an29, cd29, ct29, l29, c29⟩ := c.def_ 29 (d := fd29) rfl
  obtain ⟨oc30, od30, sl30, kV30, dc30, pm30, an30, cd30, ct30, l30, c30⟩ := c.def_ 30 (d := fd30) rfl
  obtain ⟨oc31, od31, sl31, kV31, dc31, pm31, an31, cd31, ct31, l31, c31⟩ := c.def_ 31 (d := fd31) rfl
  obtain ⟨oc32, od32, sl32, kV32, dc32, pm32, an32, cd32, ct32, l32, c32⟩ := c.def_ 32 (d := fd32) rfl
  obtain ⟨oc33, od33, sl33, kV33, dc33, pm33, an33, cd33, ct33, l33, c33⟩ := c.def_ 33 (d := fd33) rfl
  obtain ⟨oc34, od34, sl34, kV34, dc34, pm34, an34, cd34, ct34, l34, c34⟩ := c.def_ 34 (d := fd34) rfl
  obtain ⟨oc35, od35, sl35, kV35, dc35, pm35, an35, cd35, ct35, l35, c35⟩ := c.def_ 35 (d := fd35) rfl
  obtain ⟨oc36, od36, sl36, kV36, dc36, pm36, an36, cd36, ct36, l36, c36⟩ := c.def_ 36 (d := fd36) rfl
  obtain ⟨oc37, od37, sl37, kV37, dc37, pm37, an37, cd37, ct37, l37, c37⟩ := c.def_ 37 (d := fd37) rfl
  obtain ⟨oc38, od38, sl38, kV38, dc38, pm38, an38, cd38, ct38, l38, c38⟩ := c.def_ 38 (d := fd38) rfl
  obtain ⟨oc39, od39, sl39, kV39, dc39, pm39, an39, cd39, ct39, l39, c39⟩ := c.def_ 39 (d := fd39) rfl
  obtain ⟨oc40, od40, sl40, kV40, dc40, pm40, an40, cd40, ct40, l40, c40⟩ := c.def_ 40 (d := fd40) rfl
  obtain ⟨oc41, od41, sl41, kV41, dc41, pm41, an41, cd41, ct41, l41, c41⟩ := c.def_ 41 (d := fd41) rfl
  obtain ⟨oc42, od42, sl42, kV42, dc42, pm42, an42, cd42, ct42, l42, c42⟩ := c.def_ 42 (d := fd42) rfl
  obtain ⟨oc43, od43, sl43, kV43, dc43, pm43, an43, cd43, ct43, l43, c43⟩ := c.def_ 43 (d := fd43) rfl
  exact all_mk X G hfa (rw_a_C0 c) (rw_pg_C0 c) (rw_hd_C0 c) (rw_po_C0 c) (rw_sa_C0 c) (rw_mk_C0 c) (rw_kc_C0 c) (rw_nC0p c) (rw_nC0q c) (rw_nC0bases c) (rw_a_C3 c) (rw_pg_C3 c) (rw_hd_C3 c) (rw_po_C3 c) (rw_sa_C3 c) (rw_mk_C3 c) (rw_kc_C3 c) (rw_nC3name c) (rw_nC3fields c) (rw_a_C6 c) (rw_pg_C6 c) (rw_hd_C6 c) (rw_po_C6 c) (rw_sa_C6 c) (rw_mk_C6 c) (rw_kc_C6 c) (rw_nC6group c) (rw_nC6secret c) (rw_nC6holdings c) (rw_a_C7 c) (rw_pg_C7 c) (rw_hd_C7 c) (rw_po_C7 c) (rw_sa_C7 c) (rw_mk_C7 c) (rw_kc_C7 c) (rw_nC7row c) (rw_nC7randomness c) (rw_nC7numbers c) (rw_a_CPl c) (rw_pg_CPl c) (rw_hd_CPl c) (rw_po_CPl c) (rw_sa_CPl c) (rw_mk_CPl c) (rw_kc_CPl c) (rw_nCPlcards c) (rw_nCPlconditions c) (rw_a_CQn c) (rw_pg_CQn c) (rw_hd_CQn c) (rw_po_CQn c) (rw_sa_CQn c) (rw_mk_CQn c) (rw_kc_CQn c) (rw_nCQngroup c) (rw_nCQnkinds c) (rw_nCQnpolicy c) (rw_nCQnrows c) (rw_gS c) (rw_gL c) (rw_gF c) (rw_gM c) (rw_a0 c) l0 c0 (rw_k0 c) (rw_a1 c) l1 c1 (rw_k1 c) (rw_a2 c) l2 c2 (rw_k2 c) (rw_a3 c) l3 c3 (rw_k3 c) (rw_a4 c) l4 c4 (rw_k4 c) (rw_a5 c) (rw_i5 c) l5 c5 (rw_k5 c) (rw_a6 c) (rw_i6 c) l6 c6 (rw_k6 c) (rw_a7 c) l7 c7 (rw_k7 c) (rw_a8 c) (rw_i8 c) l8 c8 (rw_k8 c) (rw_a9 c) (rw_i9 c) l9 c9 (rw_k9 c) (rw_a10 c) (rw_i10 c) l10 c10 (rw_k10 c) (rw_a11 c) l11 c11 (rw_k11 c) (rw_a12 c) l12 c12 (rw_k12 c) (rw_a13 c) l13 c13 (rw_k13 c) (rw_a14 c) l14 c14 (rw_k14 c) (rw_a15 c) l15 c15 (rw_k15 c) (rw_a16 c) l16 c16 (rw_k16 c) (rw_a17 c) l17 c17 (rw_k17 c) (rw_a18 c) (rw_i18 c) l18 c18 (rw_k18 c) (rw_a19 c) (rw_i19 c) l19 c19 (rw_k19 c) (rw_a20 c) (rw_i20 c) l20 c20 (rw_k20 c) (rw_a21 c) (rw_i21 c) l21 c21 (rw_k21 c) (rw_a22 c) l22 c22 (rw_k22 c) (rw_a23 c) l23 c23 (rw_k23 c) (rw_a24 c) l24 c24 (rw_k24 c) (rw_a25 c) l25 c25 (rw_k25 c) (rw_a26 c) l26 c26 (rw_k26 c) (rw_a27 c) l27 c27 (rw_k27 c) (rw_a28 c) l28 c28 (rw_k28 c) (rw_a29 c) l29 c29 (rw_k29 c) (rw_a30 c) l30 c30 (rw_k30 c) (rw_a31 c) l31 c31 (rw_k31 c) (rw_a32 c) l32 c32 (rw_k32 c) (rw_a33 c) l33 c33 (rw_k33 c) (rw_a34 c) l34 c34 (rw_k34 c) (rw_a35 c) l35 c35 (rw_k35 c) (rw_a36 c) l36 c36 (rw_k36 c) (rw_a37 c) l37 c37 (rw_k37 c) (rw_a38 c) l38 c38 (rw_k38 c) (rw_a39 c) l39 c39 (rw_k39 c) (rw_a40 c) l40 c40 (rw_k40 c) (rw_a41 c) l41 c41 (rw_k41 c) (rw_a42 c) l42 c42 (rw_k42 c) (rw_a43 c) l43 c43 (rw_k43 c) (rw_z_isinstance c) (rw_z_len c) (rw_z_sum c) (rw_z_max c) (rw_z_min c) (rw_z_abs c) (rw_z_any c) (rw_z_all c) (rw_z_sorted c) (rw_z_int c) (rw_z_bool c) (rw_z_str c) (rw_z_list c) (rw_z_tuple c) (rw_z_dict c) (rw_z_range c) (rw_z_enumerate c) (rw_z_zip c)
def loose0 : List PySem.Str := [("_wall" : PySem.Str), ("is_prime" : PySem.Str), ("power" : PySem.Str), ("VouchError" : PySem.Str), ("BadGroup" : PySem.Str), ("SMALLEST_P" : PySem.Str), ("LARGEST_P" : PySem.Str), ("FEWEST_BASES" : PySem.Str), ("MOST_BASES" : PySem.Str), ("Group" : PySem.Str), ("_is_root" : PySem.Str), ("_check_primes" : PySem.Str), ("_check_bases" : PySem.Str), ("Kind" : PySem.Str), ("Question" : PySem.Str), ("fields_of" : PySem.Str), ("conditions_of" : PySem.Str), ("_place_named" : PySem.Str), ("meet_conditions" : PySem.Str), ("_lets" : PySem.Str)]
def loose1 : List PySem.Str := [("Pick" : PySem.Str), ("answers" : PySem.Str), ("Wallet" : PySem.Str), ("_first_answer" : PySem.Str), ("Policy" : PySem.Str), ("_kept" : PySem.Str), ("_law_pool" : PySem.Str), ("_law_draw" : PySem.Str), ("_law_same" : PySem.Str), ("_law_power" : PySem.Str), ("_law_raised" : PySem.Str), ("_law_product" : PySem.Str), ("_law_commit" : PySem.Str), ("_law_group" : PySem.Str), ("_law_numbers" : PySem.Str), ("_law_kinds" : PySem.Str), ("_law_scene" : PySem.Str), ("_law_rows" : PySem.Str), ("_law_fields" : PySem.Str), ("_law_condition" : PySem.Str)]
def loose2 : List PySem.Str := [("_law_question" : PySem.Str), ("_law_place" : PySem.Str), ("_law_sizes" : PySem.Str), ("_law_allowed" : PySem.Str), ("_law_answers" : PySem.Str), ("_law_holdings" : PySem.Str), ("_law_first" : PySem.Str)]
def loose : List PySem.Str := loose0 ++ loose1 ++ loose2
abbrev rowR : PySem.W.OpenRow := PySem.W.OpenLaw.row PySem.Challenge.rw_vouchdoor_k50_picks_of_a_wallet
abbrev hkM : PySem.W.Hook := HM.hook exs fds
def obM (s : PySem.W.SharedT) : He.Al := HM.obsM exs fds (HandSHeadRun.getT s)
theorem ob_eqM (s : PySem.W.SharedT) : obM s = hkM.obs s.abs := HM.obs_eq (HandSHeadRun.getT_eq s)
set_option maxHeartbeats 0 in
theorem runM (w : World) : HandSHeadRun.RunEq rowR (PySem.W.view rowR.prog [56]) hkM obM 20000 loose w := by
  intro os
  kernel_rfl
end My
open PySem PySem.W PySem.Calls PyProof.Rows
set_option maxRecDepth 100000 in
set_option maxHeartbeats 0 in
theorem PySem.Challenge.cw_vouchdoor_k50_picks_of_a_wallet_holds : PySem.Challenge.rw_vouchdoor_k50_picks_of_a_wallet.Holds := by
  w_on; o_law
  refine HandSHeadRun.head_any (r := OpenLaw.row PySem.Challenge.rw_vouchdoor_k50_picks_of_a_wallet) (q := view (OpenLaw.row PySem.Challenge.rw_vouchdoor_k50_picks_of_a_wallet).prog [56]) (H := My.hkM) (ob := My.obM) (M := 20000) (loose := My.loose) (d := HandSHeadRun.topDef (OpenLaw.row PySem.Challenge.rw_vouchdoor_k50_picks_of_a_wallet).prog 56) (kwd := []) My.ob_eqM
    (by kernel_rfl) (fun s => by kernel_rfl) My.runM (by kernel_rfl) (by kernel_rfl) (by kernel_rfl) (by rfl) (by first | assumption | decide +kernel) (by decide +kernel) ⟨rfl, rfl, rfl, rfl, rfl, by decide +kernel⟩ ?hw ?hc
  case hw => w_witness2
  case hc =>
    refine L2.walk_ofE (l := PySem.Challenge.rw_vouchdoor_k50_picks_of_a_wallet) (n := 63) (k := 15) (x := "script") (CX := L2.CX0) rfl (by decide) (by kernel_rfl) ⟨rfl, by decide, by decide⟩ ?F (fun _ _ _ _ z => z)
    intro w mg fa h Y G hmg0
    obtain ⟨K, KX, c⟩ := Y
    have hmg : mg ("law" : PySem.Str) = some (.ref fa) := by
      have e : (HandSHeadRun.topDef (OpenLaw.row PySem.Challenge.rw_vouchdoor_k50_picks_of_a_wallet).prog 56).name = ("law" : PySem.Str) := by kernel_rfl
      rw [← e]
      exact hmg0
    obtain ⟨fd, hb, hF⟩ := My.fin (l := PySem.Challenge.rw_vouchdoor_k50_picks_of_a_wallet) (w := w) KX G hmg c
    exact ⟨K, fd, My.spLaw K, KX, hb, fun H a ns hl _ hS => ⟨a, ns, rfl, hS, fun _ => rfl⟩, hF⟩
