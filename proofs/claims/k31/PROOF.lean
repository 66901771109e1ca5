import PyProof.Rows.All
import Wide.All
import OpenK.AllK
import Wide.FinOn
import HandS.ForMost
import HandS.IsInst
import HandS.Codes
import HandS.Zip
import KE.GoesEnum
import KE.KDictZip
import KE.KItemsList
import HandS.OwnEq
import HandS.Style
import HandS.TupAny
import HandS.Strs
import HandS.Conv
import HandS.Star
import PyProof.SumWalkG
import HandS.Exc
import HandS.ExcOwn
import HandS.TryOnly
import HandS.WordsExc
import HandS.ExcField
import HandS.ExcIs
import HandS.ExcInit
import KE.KExcIs
import HandS.DictComp
import HandS.More
import PyProof.TupleKey
import PyProof.DictRoadsH
import KE.KUnpackStar
import HandS.Deep
import HandS.Sort
import PyProof.RangeFor
import PyProof.ListRange
import KE.KStateDown
import HandS.Base
import HandS.Call
import HandS.Ends
import HandS.Words
import HandS.Defaults
import HandS.Head0
import HandS.Head1
import HandS.Head2
import HandS.HeadEnd
import HandS.HeadHook1
import HandS.Text
import HandS.Iter
import HandS.RaiseMore
import HandS.FStr
import PySem.Challenge.RW_vouchdoor_k31_whole_policies_are_read_ex
set_option Elab.async false
set_option linter.all false
set_option maxRecDepth 100000
namespace My
open PySem PySem.Spec PyProof.Rows L2
section
variable {prog : Program} {w : World} {A : Around} {E : Value → Shared → Prop} {s : Shared}
/-- an iterator over a list (false) or a tuple (true) -/
def ItK (k : Bool) (h : Heap) (it l : Addr) (i : Nat) : Prop := match k with
  | true => h.IsTupleIter it l i
  | false => h.IsListIter it l i
def SeK (k : Bool) (h : Heap) (l : Addr) (its : Array Value) : Prop := match k with
  | true => h.IsTuple l its
  | false => h.IsList l its
theorem SeK.at {k : Bool} {h h' : Heap} {l : Addr} {its : Array Value} (x : SeK k h l its) (q : ∀ o, h.get? l = some o → h'.get? l = some o) : SeK k h' l its := by
  cases k with
  | true => exact Heap.IsTuple.at (show h.IsTuple l its from x) q
  | false => exact Heap.IsList.at (show h.IsList l its from x) q
theorem ItK.at {k : Bool} {h h' : Heap} {it l : Addr} {i : Nat} (x : ItK k h it l i) (q : ∀ o, h.get? it = some o → h'.get? it = some o) : ItK k h' it l i := by
  cases k with
  | true => exact Heap.IsTupleIter.at (show h.IsTupleIter it l i from x) q
  | false => exact Heap.IsListIter.at (show h.IsListIter it l i from x) q
theorem ItK.obj {k : Bool} {h : Heap} {it l : Addr} {i : Nat} (x : ItK k h it l i) : ∃ o, h.get? it = some o ∧ ∀ v, o.data ≠ .cell v := by
  cases k with
  | true =>
    obtain ⟨o, e, _, d⟩ := x
    exact ⟨o, e, fun v q => by rw [d] at q; cases q⟩
  | false =>
    obtain ⟨o, e, _, d⟩ := x
    exact ⟨o, e, fun v q => by rw [d] at q; cases q⟩
end
def SqK (k : Bool) (K : PySem.W.Frag) (H : Hp) (a : Addr) (xs : List V) : Prop := match k with
  | true => SqT K H a xs
  | false => SqL K H a xs
theorem mul_emod_l (a b m : Int) : (a % m) * b % m = a * b % m := by
  rw [Int.mul_emod, Int.emod_emod, ← Int.mul_emod]
theorem iteD {p A B : Prop} [Decidable p] (h1 : p → A) (h2 : ¬ p → B) : if decide p = true then A else B := by
  by_cases h : p
  · rw [if_pos (decide_eq_true h)]
    exact h1 h
  · rw [if_neg (by rw [decide_eq_false h]; exact Bool.false_ne_true)]
    exact h2 h
theorem kit_NoneType_tuple {K : PySem.W.Frag} : PySem.W.kitOne K (.type "NoneType") (.type "tuple") = some false := kit_ty (by decide +kernel)
theorem kit_NoneType_list {K : PySem.W.Frag} : PySem.W.kitOne K (.type "NoneType") (.type "list") = some false := kit_ty (by decide +kernel)
theorem kit_NoneType_bool {K : PySem.W.Frag} : PySem.W.kitOne K (.type "NoneType") (.type "bool") = some false := kit_ty (by decide +kernel)
theorem kit_NoneType_int {K : PySem.W.Frag} : PySem.W.kitOne K (.type "NoneType") (.type "int") = some false := kit_ty (by decide +kernel)
theorem kit_NoneType_str {K : PySem.W.Frag} : PySem.W.kitOne K (.type "NoneType") (.type "str") = some false := kit_ty (by decide +kernel)
theorem kit_bool_tuple {K : PySem.W.Frag} : PySem.W.kitOne K (.type "bool") (.type "tuple") = some false := kit_ty (by decide +kernel)
theorem kit_bool_list {K : PySem.W.Frag} : PySem.W.kitOne K (.type "bool") (.type "list") = some false := kit_ty (by decide +kernel)
theorem kit_bool_bool {K : PySem.W.Frag} : PySem.W.kitOne K (.type "bool") (.type "bool") = some true := kit_ty (by decide +kernel)
theorem kit_bool_int {K : PySem.W.Frag} : PySem.W.kitOne K (.type "bool") (.type "int") = some true := kit_ty (by decide +kernel)
theorem kit_bool_str {K : PySem.W.Frag} : PySem.W.kitOne K (.type "bool") (.type "str") = some false := kit_ty (by decide +kernel)
theorem kit_int_tuple {K : PySem.W.Frag} : PySem.W.kitOne K (.type "int") (.type "tuple") = some false := kit_ty (by decide +kernel)
theorem kit_int_list {K : PySem.W.Frag} : PySem.W.kitOne K (.type "int") (.type "list") = some false := kit_ty (by decide +kernel)
theorem kit_int_bool {K : PySem.W.Frag} : PySem.W.kitOne K (.type "int") (.type "bool") = some false := kit_ty (by decide +kernel)
theorem kit_int_int {K : PySem.W.Frag} : PySem.W.kitOne K (.type "int") (.type "int") = some true := kit_ty (by decide +kernel)
theorem kit_int_str {K : PySem.W.Frag} : PySem.W.kitOne K (.type "int") (.type "str") = some false := kit_ty (by decide +kernel)
theorem kit_str_tuple {K : PySem.W.Frag} : PySem.W.kitOne K (.type "str") (.type "tuple") = some false := kit_ty (by decide +kernel)
theorem kit_str_list {K : PySem.W.Frag} : PySem.W.kitOne K (.type "str") (.type "list") = some false := kit_ty (by decide +kernel)
theorem kit_str_bool {K : PySem.W.Frag} : PySem.W.kitOne K (.type "str") (.type "bool") = some false := kit_ty (by decide +kernel)
theorem kit_str_int {K : PySem.W.Frag} : PySem.W.kitOne K (.type "str") (.type "int") = some false := kit_ty (by decide +kernel)
theorem kit_str_str {K : PySem.W.Frag} : PySem.W.kitOne K (.type "str") (.type "str") = some true := kit_ty (by decide +kernel)
theorem kit_list_tuple {K : PySem.W.Frag} : PySem.W.kitOne K (.type "list") (.type "tuple") = some false := kit_ty (by decide +kernel)
theorem kit_list_list {K : PySem.W.Frag} : PySem.W.kitOne K (.type "list") (.type "list") = some true := kit_ty (by decide +kernel)
theorem kit_list_bool {K : PySem.W.Frag} : PySem.W.kitOne K (.type "list") (.type "bool") = some false := kit_ty (by decide +kernel)
theorem kit_list_int {K : PySem.W.Frag} : PySem.W.kitOne K (.type "list") (.type "int") = some false := kit_ty (by decide +kernel)
theorem kit_list_str {K : PySem.W.Frag} : PySem.W.kitOne K (.type "list") (.type "str") = some false := kit_ty (by decide +kernel)
theorem kit_tuple_tuple {K : PySem.W.Frag} : PySem.W.kitOne K (.type "tuple") (.type "tuple") = some true := kit_ty (by decide +kernel)
theorem kit_tuple_list {K : PySem.W.Frag} : PySem.W.kitOne K (.type "tuple") (.type "list") = some false := kit_ty (by decide +kernel)
theorem kit_tuple_bool {K : PySem.W.Frag} : PySem.W.kitOne K (.type "tuple") (.type "bool") = some false := kit_ty (by decide +kernel)
theorem kit_tuple_int {K : PySem.W.Frag} : PySem.W.kitOne K (.type "tuple") (.type "int") = some false := kit_ty (by decide +kernel)
theorem kit_tuple_str {K : PySem.W.Frag} : PySem.W.kitOne K (.type "tuple") (.type "str") = some false := kit_ty (by decide +kernel)
theorem iteCT {c : Bool} {A B : Prop} (hc : c = true) (h : A) : if c = true then A else B := by
  rw [if_pos hc]
  exact h
theorem iteCF {c : Bool} {A B : Prop} (hc : c = false) (h : B) : if c = true then A else B := by
  rw [if_neg (by rw [hc]; exact Bool.false_ne_true)]
  exact h
theorem propOnly {p : Prop} (h : p) : p := h
/-- where the walk is to stop: between two turns of a loop -/
inductive At (p : Prop) : Prop where
  | of (h : p)
  | also (h : p)
theorem At.out {p : Prop} : At p → p
  | .of h => h
  | .also h => h
theorem len_size {n : Nat} (h : n ≤ 100000) : n < sizeLine := Nat.lt_of_le_of_lt h (by decide)
theorem same_new {H : Hp} {p : Addr} {o : HO} (h : H p = none) : Same H (upd H p o) := fun b x e => by
  rw [upd_ne (ne_of_none e h)]
  exact e
/-- the list of a pool, by its look: a reference, then an int -/
def poolV : List V → Bool
  | .ref _ :: .int _ :: _ => true
  | _ => false
def poolO : HO → Bool
  | .lst xs => poolV xs
  | _ => false
/-- all that was tracked is as it was, but for pools -/
def Keep (H H' : Hp) : Prop := ∀ b o, H b = some o → poolO o = false → H' b = some o
theorem Keep.refl (H : Hp) : Keep H H := fun _ _ h _ => h
theorem Keep.trans {H H1 H2 : Hp} (a : Keep H H1) (b : Keep H1 H2) : Keep H H2 := fun c o h p => b c o (a c o h p) p
mutual
inductive Rp (H : Hp) : V → PyData → Prop
  | non : Rp H .non .none
  | bl (b : Bool) : Rp H (.bl b) (.bool b)
  | int (i : Int) : Rp H (.int i) (.int i)
  | str (x : Str) : Rp H (.str x) (.str x)
  | lst {a : Addr} {xs : List V} {ds : List PyData} : H a = some (.lst xs) → poolV xs = false → RpAll H xs ds → Rp H (.ref a) (.list ds)
  | tup {a : Addr} {xs : List V} {ds : List PyData} : H a = some (.tup xs) → RpAll H xs ds → Rp H (.ref a) (.tuple ds)
inductive RpAll (H : Hp) : List V → List PyData → Prop
  | nil : RpAll H [] []
  | cons {v : V} {vs : List V} {d : PyData} {ds : List PyData} : Rp H v d → RpAll H vs ds → RpAll H (v :: vs) (d :: ds)
end
mutual
theorem Rp.keep {H H' : Hp} (k : Keep H H') : ∀ {v : V} {d : PyData}, Rp H v d → Rp H' v d
  | _, _, .non => .non
  | _, _, .bl b => .bl b
  | _, _, .int i => .int i
  | _, _, .str x => .str x
  | _, _, .lst h p r => .lst (k _ _ h p) p (RpAll.keep k r)
  | _, _, .tup h r => .tup (k _ _ h rfl) (RpAll.keep k r)
theorem RpAll.keep {H H' : Hp} (k : Keep H H') : ∀ {vs : List V} {ds : List PyData}, RpAll H vs ds → RpAll H' vs ds
  | _, _, .nil => .nil
  | _, _, .cons a r => .cons (Rp.keep k a) (RpAll.keep k r)
end
theorem RpAll.length {H : Hp} : ∀ {vs : List V} {ds : List PyData}, RpAll H vs ds → vs.length = ds.length
  | _, _, .nil => rfl
  | _, _, .cons _ r => congrArg (· + 1) (RpAll.length r)
theorem RpAll.get {H : Hp} : ∀ {vs : List V} {ds : List PyData} {i : Nat} {d : PyData}, RpAll H vs ds → ds[i]? = some d → ∃ v, vs[i]? = some v ∧ Rp H v d
  | _, _, _, _, .nil, e => by simp at e
  | _, _, 0, _, .cons a _, e => by
    simp only [List.getElem?_cons_zero, Option.some.injEq] at e
    subst e
    exact ⟨_, rfl, a⟩
  | _, _, i + 1, _, .cons _ r, e => by
    simp only [List.getElem?_cons_succ] at e
    obtain ⟨v, h1, h2⟩ := RpAll.get (i := i) r e
    exact ⟨v, h1, h2⟩
theorem RpAll.getV {H : Hp} : ∀ {vs : List V} {ds : List PyData} {i : Nat} {v : V}, RpAll H vs ds → vs[i]? = some v → ∃ d, ds[i]? = some d ∧ Rp H v d
  | _, _, _, _, .nil, e => by simp at e
  | _, _, 0, _, .cons a _, e => by
    simp only [List.getElem?_cons_zero, Option.some.injEq] at e
    subst e
    exact ⟨_, rfl, a⟩
  | _, _, i + 1, _, .cons _ r, e => by
    simp only [List.getElem?_cons_succ] at e
    obtain ⟨d, h1, h2⟩ := RpAll.getV (i := i) r e
    exact ⟨d, h1, h2⟩
/-- at p: the pool of a law, whatever it holds; its copy of the script at c -/
def PoolAt (H : Hp) (p c : Addr) : Prop := ∃ (ns : List Int) (i m s b z : Int),
  H p = some (.lst [.ref c, .int i, .int m, .int s, .int b, .int z]) ∧ H c = some (.lst (ns.map V.int)) ∧ 0 ≤ i ∧ 0 ≤ s ∧ s < 2147483647
theorem PoolAt.same {H H' : Hp} {p c : Addr} (s : Same H H') (h : PoolAt H p c) : PoolAt H' p c := by
  obtain ⟨ns, i, m, t, b, z, h1, h2, r⟩ := h
  exact ⟨ns, i, m, t, b, z, s _ _ h1, s _ _ h2, r⟩
/-- another list is changed beside it -/
theorem PoolAt.mut {H : Hp} {p c l : Addr} {o : HO} (h : PoolAt H p c) (n : l ≠ p) (nc : l ≠ c) : PoolAt (upd H l o) p c := by
  obtain ⟨ns, i, m, t, b, z, h1, h2, r⟩ := h
  exact ⟨ns, i, m, t, b, z, by rw [upd_ne n.symm]; exact h1, by rw [upd_ne nc.symm]; exact h2, r⟩
theorem PoolAt.at {H : Hp} {p c : Addr} (h : PoolAt H p c) : ∃ xs, H p = some (.lst xs) ∧ poolV xs = true := by
  obtain ⟨ns, i, m, t, b, z, h1, _⟩ := h
  exact ⟨_, h1, rfl⟩
theorem PoolAt.ne {H : Hp} {p c l : Addr} (h : PoolAt H p c) (f : H l = none) : l ≠ p ∧ l ≠ c := by
  obtain ⟨ns, i, m, t, b, z, h1, h2, _⟩ := h
  exact ⟨(ne_of_none h1 f).symm, (ne_of_none h2 f).symm⟩
theorem bt_isinstance : bootBuiltins "isinstance" = some (.builtin "isinstance") := by decide +kernel
theorem bt_len : bootBuiltins "len" = some (.builtin "len") := by decide +kernel
theorem bt_min : bootBuiltins "min" = some (.builtin "min") := by decide +kernel
theorem bt_all : bootBuiltins "all" = some (.builtin "all") := by decide +kernel
theorem bt_int : bootBuiltins "int" = some (.type "int") := by decide +kernel
theorem bt_bool : bootBuiltins "bool" = some (.type "bool") := by decide +kernel
theorem bt_str : bootBuiltins "str" = some (.type "str") := by decide +kernel
theorem bt_list : bootBuiltins "list" = some (.type "list") := by decide +kernel
theorem bt_tuple : bootBuiltins "tuple" = some (.type "tuple") := by decide +kernel
structure Blt (mg : Str → Option Value) : Prop where
  isinstance : mg "isinstance" = none
  len : mg "len" = none
  sum : mg "sum" = none
  max : mg "max" = none
  min : mg "min" = none
  abs : mg "abs" = none
  any : mg "any" = none
  all : mg "all" = none
  sorted : mg "sorted" = none
  int : mg "int" = none
  bool : mg "bool" = none
  str : mg "str" = none
  list : mg "list" = none
  tuple : mg "tuple" = none
  dict : mg "dict" = none
  range : mg "range" = none
  enumerate : mg "enumerate" = none
  zip : mg "zip" = none
def rLen (K : PySem.W.Frag) : List V → Hp → VK → Prop := fun xs H Q => ∃ p ys, xs = [V.ref p] ∧ (SqL K H p ys ∨ SqT K H p ys) ∧ Q (.int (ys.length : Nat)) H
def rListOf (K : PySem.W.Frag) : List V → Hp → VK → Prop := fun xs H Q => ∃ p ys, xs = [V.ref p] ∧ (SqL K H p ys ∨ SqT K H p ys) ∧ ∀ l, H l = none → Q (.ref l) (upd H l (.lst ys))
section
variable {X : Cx} {K : PySem.W.Frag} {e o b : Expr} {es : List Expr} {ta to : TE} {t : TA} {f : Str} {pos : Pos}
theorem kfld (hK : X.K = K) (he : PE X e ta) (hb : attributeBase e f X.env (eval e X.env) = eval e X.env := by rfl) : PE X (.Attribute e f pos) (tFld K ta f) := by
  subst hK
  exact pe_fld he hb
theorem kixl (hK : X.K = K) : IxR X (rIxL K) := by
  subst hK
  exact ix_list
theorem kixs (hK : X.K = K) : IxR X (rIx K) := by
  subst hK
  exact ix_seq
theorem ksll (hK : X.K = K) : SlR X (rSlL K) := by
  subst hK
  exact sl_list
theorem kin (hK : X.K = K) : OpR X (compareOp .In) (rIn K false) := by
  subst hK
  exact op_in_seq
theorem knin (hK : X.K = K) : OpR X (compareOp .NotIn) (rIn K true) := by
  subst hK
  exact op_notIn_seq
theorem keqd (hK : X.K = K) (hu : X.A.units + 64 < cLine) : OpR X (compareOp .Eq) (rEqD K) := by
  subst hK
  exact op_eqD hu
theorem kned (hK : X.K = K) (hu : X.A.units + 64 < cLine) : OpR X (compareOp .NotEq) (rNeD K) := by
  subst hK
  exact op_neD hu
theorem klen (hK : X.K = K) : CallR X (.builtin "len") (rLen K) := by
  subst hK
  exact call_len_seq
theorem klist (hK : X.K = K) : CallR X (.type "list") (rListOf K) := by
  subst hK
  exact call_list_of
theorem kisi (hK : X.K = K) : CallR X (.builtin "isinstance") (rIsi K) := by
  subst hK
  exact call_isi
theorem kisiT (hK : X.K = K) : CallR X (.builtin "isinstance") (rIsiT K) := by
  subst hK
  exact call_isiT
theorem kall (hK : X.K = K) (hc : X.calm = true) : CallR X (.builtin "all") (rAll K) := by
  subst hK
  exact cr_all hc
theorem kpil (hK : X.K = K) {tg l : Expr} {tl : TE} (h : PE X l tl) : PI X tg l (iList K tl) := by
  subst hK
  exact pi_list h
theorem kpit (hK : X.K = K) {tg l : Expr} {tl : TE} (h : PE X l tl) : PI X tg l (iTup K tl) := by
  subst hK
  exact pi_tup h
theorem kgtup (hK : X.K = K) {es : List Expr} {k n : Nat} {t : TGs} (hc : X.calm = true) (h : PGs X es t) (hn : (assignEach es X.env).length = n := by rfl) (hst : (assignEach es X.env).findIdx? (·.1) = none := by rfl) : PG X (.Tuple es k pos) (gTup K n t) := by
  subst hK
  exact pg_tup hc h hn hst
end
def ItS (k : Bool) (K : PySem.W.Frag) (a : Addr) : It := match k with
  | true => Itt K a
  | false => Itl K a
def iK (k : Bool) (K : PySem.W.Frag) (tl : TE) : TI := fun σ H R => tl σ H fun x H1 => ∃ a, x = .ref a ∧ (∃ xs, SqK k K H1 a xs) ∧ R (ItS k K a) H1
theorem pi_K (k : Bool) {X : Cx} {K : PySem.W.Frag} (hK : X.K = K) {tg l : Expr} {tl : TE} (h : PE X l tl) : PI X tg l (iK k K tl) := by
  subst hK
  cases k with
  | true => exact pi_tup h
  | false => exact pi_list h
theorem SqK.same {k : Bool} {K : PySem.W.Frag} {H H' : Hp} {a : Addr} {xs : List V} (s : Same H H') (h : SqK k K H a xs) : SqK k K H' a xs := by
  cases k with
  | true =>
    rcases h with (h | ⟨o, h⟩) | h
    · exact .inl (.inl (s _ _ h))
    · exact .inl (.inr ⟨o, s _ _ h⟩)
    · exact .inr h
  | false => exact Same.seq s h
theorem pe_gint {X : Cx} {x : Str} {i : Int} {pos : Pos} (h : ∃ t, X.mg x = some (.int i t)) (hg : Gl X x := by rfl) (hd : (x == ("__debug__" : Str)) = false := by decide) : PE X (.Name x pos) (tC (.int i)) := by
  obtain ⟨t, h⟩ := h
  exact pe_glob hg h ⟨_, rfl⟩ (hd := hd)
theorem flat_ints (ns : List Int) : (ns.map V.int).all flatV = true := by
  rw [List.all_map]
  exact List.all_eq_true.mpr fun _ _ => rfl
def TpO (o : HO) (vs : List V) : Prop := ∃ ob : Obj, ob.dict = none ∧ o = .frz ob (.tup vs)
theorem TpO.sq {K : PySem.W.Frag} {H : Hp} {a : Addr} {o : HO} {vs : List V} (t : TpO o vs) (h : H a = some o) : SqT K H a vs := by
  obtain ⟨ob, _, rfl⟩ := t
  exact .inl (.inr ⟨ob, h⟩)
def tTupF (t : TA) : TE := fun σ H Q => t σ H fun xs H1 => xs.length ≤ sizeLine ∧ ∀ p o, H1 p = none → TpO o xs → Q (.ref p) (upd H1 p o)
theorem pe_tupF {X : Cx} {es : List Expr} {t : TA} {pos : Pos} {x1} (h : PA X es t) : PE X (.Tuple es x1 pos) (tTupF t) := by
  refine ⟨fun pins s σ H Q I hq => ?_⟩
  refine wpAny_Tuple_spliced (thn (h.run pos pins s σ H _ I hq) fun us s1 ⟨xs, H1, I1, r, z, q⟩ => ⟨by rw [← r.length]; exact z, ?_⟩)
  have hf : H1 s1.heap.objs.size = none := I1.hok.fresh (Nat.le_refl _)
  refine ⟨.ref s1.heap.objs.size, upd H1 s1.heap.objs.size (.frz { cls := .type "tuple", data := .seq us.toArray } (.tup xs)), I1.laid (t' := s1.toks) (fun b u e => Heap.get?_push_of_some _ e) (Nat.le_refl _) ?_, rfl, q _ _ hf ⟨_, rfl, rfl⟩⟩
  exact ⟨Heap.get?_push_size _ rfl, z, us, r, ⟨_, Heap.get?_push_size _ rfl, rfl, _, rfl⟩⟩
def rTupF (K : PySem.W.Frag) : List V → Hp → VK → Prop := fun xs H Q => ∃ p ys, xs = [V.ref p] ∧ ((SqL K H p ys ∧ ∀ l o, H l = none → TpO o ys → Q (.ref l) (upd H l o)) ∨ (SqT K H p ys ∧ Q (.ref p) H))
theorem ktupF {X : Cx} {K : PySem.W.Frag} (hK : X.K = K) : CallR X (.type "tuple") (rTupF K) := by
  subst hK
  intro pins s σ H xs us Q I r h
  obtain ⟨p, ys, rfl, h⟩ := h
  obtain ⟨u, rfl, ru⟩ := vals1 r
  cases ru
  rcases h with ⟨hs, q⟩ | ⟨hs, q⟩
  · obtain ⟨its, rv, pl, hz⟩ := I.list hs
    refine call_tuple_list pl.isList (fun h' hk => ?_) (by rw [List.size_toArray, ← rv.length]; exact hz)
    have I1 : Inv X pins σ H { s with heap := h' } := I.kept (t' := s.toks) hk
    have I2 : Inv X pins σ (upd H h'.objs.size (.frz { cls := .type "tuple", data := .seq its.toArray } (.tup ys))) { s with heap := h'.push { cls := .type "tuple", data := .seq its.toArray } } :=
      I1.laid (t' := s.toks) (fun b o e => Heap.get?_push_of_some _ e) (Nat.le_refl _) (show ObjOk X.prog X.w _ _ _ (.frz _ (.tup ys)) from ⟨Heap.get?_push_size _ rfl, hz, its, rv, IsTup.new _ _⟩)
    exact ⟨.ref h'.objs.size, _, I2, rfl, q _ _ (I1.hok.fresh (Nat.le_refl _)) ⟨_, rfl, rfl⟩⟩
  · obtain ⟨its, rv, pl, hz⟩ := I.tuple hs
    exact call_tuple_tup pl ⟨.ref p, H, I, rfl, q⟩
/-- t[lo:hi]: the whole of it is t itself -/
def rSlF (K : PySem.W.Frag) : V → Option Int → Option Int → Hp → VK → Prop := fun x lo hi H Q => ∃ a xs, x = .ref a ∧ SqT K H a xs ∧
  (HT.sIx xs.length 0 lo = 0 ∧ HT.sIx xs.length xs.length hi = xs.length → Q (.ref a) H) ∧ (¬ (HT.sIx xs.length 0 lo = 0 ∧ HT.sIx xs.length xs.length hi = xs.length) → ∀ p o, H p = none → TpO o (cutV xs lo hi) → Q (.ref p) (upd H p o))
theorem kslF {X : Cx} {K : PySem.W.Frag} (hK : X.K = K) : SlR X (rSlF K) := by
  subst hK
  intro pins s σ H x v vl vu lo hi sl Q I rx hs pl pu h
  obtain ⟨a, xs, rfl, hx, q1, q2⟩ := h
  cases rx
  obtain ⟨its, r, ht, hz⟩ := I.tuple hx
  have hlen : its.toArray.size = xs.length := by rw [List.size_toArray]; exact r.length.symm
  by_cases hw : HT.sIx xs.length 0 lo = 0 ∧ HT.sIx xs.length xs.length hi = xs.length
  · refine ⟨"tuple", _, PyProof.Rows.slot_tuple_getitem.lookup, ht.typeIs, ?_⟩
    exact getItem_tuple_whole ht hs pl pu (by rw [hlen]; exact hw) ⟨.ref a, H, I, rfl, q1 hw⟩
  · refine ⟨"tuple", _, PyProof.Rows.slot_tuple_getitem.lookup, ht.typeIs, ?_⟩
    refine HT.getItem_tuple_cut ht hs pl pu (by rw [hlen]; exact hw) ?_ (by rw [hlen]; exact hz)
    rw [hlen]
    refine ⟨.ref s.heap.objs.size, _, I.laid (t' := s.toks) (o := .frz { cls := .type "tuple", data := .seq ((its.toArray.toList.drop (HT.sIx xs.length 0 lo)).take (HT.sIx xs.length xs.length hi - HT.sIx xs.length 0 lo)).toArray } (.tup (cutV xs lo hi))) (fun b ob q => Heap.get?_push_of_some _ q) (Nat.le_refl _) ?_, rfl, q2 hw _ _ (I.hok.fresh (Nat.le_refl _)) ⟨_, rfl, rfl⟩⟩
    exact ⟨Heap.get?_push_size _ rfl, Nat.le_trans (cutV_length xs lo hi) hz, _, (r.drop (HT.sIx xs.length 0 lo)).take (HT.sIx xs.length xs.length hi - HT.sIx xs.length 0 lo), IsTup.new _ _⟩
/-- t + u -/
def rCatF (K : PySem.W.Frag) : R2 := fun x y H Q => ∃ a b xs ys, x = .ref a ∧ y = .ref b ∧ SqT K H a xs ∧ SqT K H b ys ∧ xs.length + ys.length ≤ sizeLine ∧
  (xs = [] → Q (.ref b) H) ∧ (xs ≠ [] → ys = [] → Q (.ref a) H) ∧ (xs ≠ [] → ys ≠ [] → ∀ p o, H p = none → TpO o (xs ++ ys) → Q (.ref p) (upd H p o))
theorem kcatF {X : Cx} {K : PySem.W.Frag} (hK : X.K = K) : OpR X (binaryOp .Add) (rCatF K) := by
  subst hK
  intro pins s σ H x y v u Q I rx ry h
  obtain ⟨a, b, xs, ys, rfl, rfl, ha, hb, hz, q0, q1, q2⟩ := h
  cases rx
  cases ry
  obtain ⟨its, r1, p1, _⟩ := I.tuple ha
  obtain ⟨its2, r2, p2, _⟩ := I.tuple hb
  by_cases hx : xs = []
  · subst hx
    cases r1
    exact cat_tup0 p1 p2 ⟨.ref b, H, I, rfl, q0 rfl⟩
  · refine HT.cat_tup p1 p2 (fun z => hx (r1.nil_iff.mp z)) (fun z => ⟨.ref a, H, I, rfl, q1 hx (r2.nil_iff.mp z)⟩) (fun z => ?_) (by rw [← r1.length, ← r2.length]; exact hz)
    refine ⟨.ref s.heap.objs.size, _, I.laid (t' := s.toks) (o := .frz { cls := .type "tuple", data := .seq (its ++ its2).toArray } (.tup (xs ++ ys))) (fun b ob q => Heap.get?_push_of_some _ q) (Nat.le_refl _) ?_, rfl, q2 hx (fun w => z (r2.nil_iff.mpr w)) _ _ (I.hok.fresh (Nat.le_refl _)) ⟨_, rfl, rfl⟩⟩
    exact ⟨Heap.get?_push_size _ rfl, by rw [List.length_append]; exact hz, _, r1.append r2, IsTup.new _ _⟩
def hashTI (ks : List Int) : Int := reduceHash (Builtin.Tuple.tupleHashOf (ks.map hashInt))
def entTI (x : List Int × Addr × Value) : DictEntry := ⟨hashTI x.1, .ref x.2.1, x.2.2⟩
/-- such a dict at a: its keys with their objects, its values -/
abbrev dicT (a : Addr) (xs : List (List Int × Addr × Value)) : HO := .ext fun h => ((a == sysModules) = false ∧ xs.length ≤ sizeLine) ∧ ∃ o es ep, h.get? a = some o ∧ o.ExactDict ∧ o.data = .dict es ep ∧ es.toList = xs.map entTI ∧ (xs.map (·.1)).Nodup
inductive Dat where
  | non | bl (b : Bool) | int (i : Int) | str (x : Str) | pool
  | lst (xs : List Dat) | tup (xs : List Dat)
  | obj (k : Nat) (ds : List Dat)
  | dK (kvs : List (Key × Dat))
  | dT (ks : List (List Int)) (ds : List Dat)
  | rng (lo hi : Int)
  | cell (a : Addr)
/-- what stays as it is through a law: the written part, the pool and its copy of the script -/
structure Wd where
  K : PySem.W.Frag
  ca : Nat → Addr
  po : Option (Addr × Addr)
/-- the attributes of the objects of each class, by the class's number -/
def clsN : Nat → List Str
  | 0 => ["p", "q", "bases"]
  | 1 => ["unknowns", "equations"]
  | 2 => ["statement", "choices"]
  | 3 => ["name", "fields"]
  | 4 => ["kind", "element", "first", "drawn", "state"]
  | 5 => ["name", "group", "kinds", "book", "_requests"]
  | 6 => ["group", "secret", "holdings"]
  | 7 => ["row", "randomness", "numbers"]
  | 8 => ["cards", "conditions"]
  | 9 => ["group", "kinds", "policy", "rows"]
  | 15 => ["words", "at"]
  | 16 => ["_group", "_fresh", "_told", "_claim", "_witness", "_tape"]
  | 17 => ["state", "_question", "_claim", "_first", "_drawn"]
  | _ => []
/-- a tuple that stays as it is: it is among the settled objects, or it is written -/
def FzT (_ : Wd) (F : Addr → Prop) (H : Hp) (a : Addr) (vs : List V) : Prop := F a ∧ ∃ o, H a = some o ∧ TpO o vs
theorem FzT.sq {W : Wd} {F : Addr → Prop} {H : Hp} {a : Addr} {vs : List V} (h : FzT W F H a vs) : SqT W.K H a vs := by
  obtain ⟨_, o, e, t⟩ := h
  exact t.sq e
mutual
inductive Rv (W : Wd) (F : Addr → Prop) (H : Hp) : V → Dat → Prop
  | non : Rv W F H .non .non
  | bl (b : Bool) : Rv W F H (.bl b) (.bl b)
  | int (i : Int) : Rv W F H (.int i) (.int i)
  | str (x : Str) : Rv W F H (.str x) (.str x)
  | pool {p c : Addr} : W.po = some (p, c) → Rv W F H (.ref p) .pool
  | lst {a : Addr} {vs : List V} {ds : List Dat} : F a → H a = some (.lst vs) → RvAll W F H vs ds → Rv W F H (.ref a) (.lst ds)
  | tup {a : Addr} {vs : List V} {ds : List Dat} : FzT W F H a vs → RvAll W F H vs ds → Rv W F H (.ref a) (.tup ds)
  | obj {a dx : Addr} {k : Nat} {fs : List (Str × V)} {ds : List Dat} : F a → H a = some (.ins (W.ca k) dx fs) → RvFs W F H fs (clsN k) ds → (∀ m, m ∉ clsN k → fs.lookup m = none) → Rv W F H (.ref a) (.obj k ds)
  | dK {a : Addr} {kvs : List (Key × V)} {kds : List (Key × Dat)} : F a → H a = some (.dK kvs) → RvKv W F H kvs kds → Rv W F H (.ref a) (.dK kds)
  | dT {a : Addr} {xs : List (List Int × Addr × Value)} {vs : List V} {ks : List (List Int)} {ds : List Dat} : F a → H a = some (dicT a xs) → ks = xs.map (·.1) → (∀ x ∈ xs, FzT W F H x.2.1 (x.1.map V.int)) → Vals vs (xs.map (·.2.2)) → RvAll W F H vs ds → Rv W F H (.ref a) (.dT ks ds)
  | rng {a : Addr} {lo hi : Int} : F a → H a = some (.rng lo hi) → Rv W F H (.ref a) (.rng lo hi)
  | cell (a : Addr) : Rv W F H (.ref a) (.cell a)
inductive RvAll (W : Wd) (F : Addr → Prop) (H : Hp) : List V → List Dat → Prop
  | nil : RvAll W F H [] []
  | cons {v : V} {vs : List V} {d : Dat} {ds : List Dat} : Rv W F H v d → RvAll W F H vs ds → RvAll W F H (v :: vs) (d :: ds)
inductive RvFs (W : Wd) (F : Addr → Prop) (H : Hp) : List (Str × V) → List Str → List Dat → Prop
  | nil {fs : List (Str × V)} : RvFs W F H fs [] []
  | cons {fs : List (Str × V)} {k : Str} {v : V} {d : Dat} {ks : List Str} {ds : List Dat} : fs.lookup k = some v → Rv W F H v d → RvFs W F H fs ks ds → RvFs W F H fs (k :: ks) (d :: ds)
inductive RvKv (W : Wd) (F : Addr → Prop) (H : Hp) : List (Key × V) → List (Key × Dat) → Prop
  | nil : RvKv W F H [] []
  | cons {k : Key} {v : V} {kvs : List (Key × V)} {d : Dat} {kds : List (Key × Dat)} : Rv W F H v d → RvKv W F H kvs kds → RvKv W F H ((k, v) :: kvs) ((k, d) :: kds)
end
/-- more is settled, what was settled stands as it was -/
def Sub (F : Addr → Prop) (H : Hp) (F' : Addr → Prop) (H' : Hp) : Prop := ∀ a, F a → F' a ∧ H' a = H a
theorem FzT.sub {W : Wd} {F F' : Addr → Prop} {H H' : Hp} {a : Addr} {vs : List V} (s : Sub F H F' H') (h : FzT W F H a vs) : FzT W F' H' a vs := by
  obtain ⟨f, o, e, t⟩ := h
  exact ⟨(s a f).1, o, (s a f).2.trans e, t⟩
section
variable {W : Wd} {F F' : Addr → Prop} {H H' : Hp}
mutual
theorem Rv.sub (s : Sub F H F' H') : ∀ {v : V} {d : Dat}, Rv W F H v d → Rv W F' H' v d
  | _, _, .non => .non
  | _, _, .bl b => .bl b
  | _, _, .int i => .int i
  | _, _, .str x => .str x
  | _, _, .pool h => .pool h
  | _, _, .lst f h r => .lst (s _ f).1 ((s _ f).2.trans h) (RvAll.sub s r)
  | _, _, .tup h r => .tup (h.sub s) (RvAll.sub s r)
  | _, _, .obj f h r n => .obj (s _ f).1 ((s _ f).2.trans h) (RvFs.sub s r) n
  | _, _, .dK f h r => .dK (s _ f).1 ((s _ f).2.trans h) (RvKv.sub s r)
  | _, _, .dT f h e g l r => .dT (s _ f).1 ((s _ f).2.trans h) e (fun x hx => (g x hx).sub s) l (RvAll.sub s r)
  | _, _, .rng f h => .rng (s _ f).1 ((s _ f).2.trans h)
  | _, _, .cell a => .cell a
theorem RvAll.sub (s : Sub F H F' H') : ∀ {vs : List V} {ds : List Dat}, RvAll W F H vs ds → RvAll W F' H' vs ds
  | _, _, .nil => .nil
  | _, _, .cons a r => .cons (Rv.sub s a) (RvAll.sub s r)
theorem RvFs.sub (s : Sub F H F' H') : ∀ {vs : List (Str × V)} {ks : List Str} {ds : List Dat}, RvFs W F H vs ks ds → RvFs W F' H' vs ks ds
  | _, _, _, .nil => .nil
  | _, _, _, .cons e a r => .cons e (Rv.sub s a) (RvFs.sub s r)
theorem RvKv.sub (s : Sub F H F' H') : ∀ {vs : List (Key × V)} {ds : List (Key × Dat)}, RvKv W F H vs ds → RvKv W F' H' vs ds
  | _, _, .nil => .nil
  | _, _, .cons a r => .cons (Rv.sub s a) (RvKv.sub s r)
end
theorem RvAll.length : ∀ {vs : List V} {ds : List Dat}, RvAll W F H vs ds → vs.length = ds.length
  | _, _, .nil => rfl
  | _, _, .cons _ r => congrArg (· + 1) (RvAll.length r)
theorem RvAll.get : ∀ {vs : List V} {ds : List Dat} {i : Nat} {d : Dat}, RvAll W F H vs ds → ds[i]? = some d → ∃ v, vs[i]? = some v ∧ Rv W F H v d
  | _, _, _, _, .nil, e => by simp at e
  | _, _, 0, _, .cons a _, e => by
    simp only [List.getElem?_cons_zero, Option.some.injEq] at e
    subst e
    exact ⟨_, rfl, a⟩
  | _, _, i + 1, _, .cons _ r, e => by
    simp only [List.getElem?_cons_succ] at e
    obtain ⟨v, h1, h2⟩ := RvAll.get (i := i) r e
    exact ⟨v, h1, h2⟩
theorem RvAll.getV : ∀ {vs : List V} {ds : List Dat} {i : Nat} {v : V}, RvAll W F H vs ds → vs[i]? = some v → ∃ d, ds[i]? = some d ∧ Rv W F H v d
  | _, _, _, _, .nil, e => by simp at e
  | _, _, 0, _, .cons a _, e => by
    simp only [List.getElem?_cons_zero, Option.some.injEq] at e
    subst e
    exact ⟨_, rfl, a⟩
  | _, _, i + 1, _, .cons _ r, e => by
    simp only [List.getElem?_cons_succ] at e
    obtain ⟨d, h1, h2⟩ := RvAll.getV (i := i) r e
    exact ⟨d, h1, h2⟩
theorem RvAll.append : ∀ {vs ws : List V} {ds es : List Dat}, RvAll W F H vs ds → RvAll W F H ws es → RvAll W F H (vs ++ ws) (ds ++ es)
  | _, _, _, _, .nil, s => s
  | _, _, _, _, .cons a r, s => .cons a (RvAll.append r s)
theorem RvAll.take : ∀ {vs : List V} {ds : List Dat} (n : Nat), RvAll W F H vs ds → RvAll W F H (vs.take n) (ds.take n)
  | _, _, 0, _ => .nil
  | _, _, _ + 1, .nil => .nil
  | _, _, n + 1, .cons a r => .cons a (RvAll.take n r)
theorem RvAll.drop : ∀ {vs : List V} {ds : List Dat} (n : Nat), RvAll W F H vs ds → RvAll W F H (vs.drop n) (ds.drop n)
  | _, _, 0, r => r
  | _, _, _ + 1, .nil => .nil
  | _, _, n + 1, .cons _ r => RvAll.drop n r
theorem RvAll.set : ∀ {vs : List V} {ds : List Dat} {v : V} {d : Dat} (n : Nat), RvAll W F H vs ds → Rv W F H v d → RvAll W F H (vs.set n v) (ds.set n d)
  | _, _, _, _, _, .nil, _ => .nil
  | _, _, _, _, 0, .cons _ r, q => .cons q r
  | _, _, _, _, n + 1, .cons a r, q => .cons a (RvAll.set n r q)
theorem RvAll.bls : ∀ {vs : List V} {ns : List Bool}, RvAll W F H vs (ns.map Dat.bl) → vs = ns.map V.bl
  | _, [], .nil => rfl
  | _, n :: ns, .cons a r => by
    rw [RvAll.bls r]
    cases a
    rfl
theorem RvFs.get : ∀ {fs : List (Str × V)} {ks : List Str} {ds : List Dat} {i : Nat} {k : Str} {d : Dat}, RvFs W F H fs ks ds → ks[i]? = some k → ds[i]? = some d → ∃ v, fs.lookup k = some v ∧ Rv W F H v d
  | _, _, _, _, _, _, .nil, e, _ => by simp at e
  | _, _, _, 0, _, _, .cons e1 a r, e, e2 => by
    simp only [List.getElem?_cons_zero, Option.some.injEq] at e e2
    subst e
    subst e2
    exact ⟨_, e1, a⟩
  | _, _, _, i + 1, _, _, .cons e1 a r, e, e2 => by
    simp only [List.getElem?_cons_succ] at e e2
    exact RvFs.get (i := i) r e e2
end
structure Okk (W : Wd) (F : Addr → Prop) (H : Hp) : Prop where
  tr : ∀ a, F a → H a ≠ none
  po : ∀ p c, W.po = some (p, c) → PoolAt H p c ∧ ¬ F p ∧ ¬ F c
/-- not the pool -/
def NPo (W : Wd) (a : Addr) : Prop := ∀ p c, W.po = some (p, c) → a ≠ p
structure Ext (W : Wd) (F : Addr → Prop) (H : Hp) (F' : Addr → Prop) (H' : Hp) : Prop where
  up : ∀ a, F a → F' a
  dn : ∀ a, F' a → F a ∨ H a = none
  kp : ∀ a o, H a = some o → NPo W a → H' a = some o
  ok : Okk W F' H'
theorem Okk.np {W : Wd} {F : Addr → Prop} {H : Hp} (k : Okk W F H) {a : Addr} (f : F a) : NPo W a := fun p c e z => by
  subst z
  exact (k.po _ _ e).2.1 f
theorem Ext.sub {W : Wd} {F F' : Addr → Prop} {H H' : Hp} (k : Okk W F H) (x : Ext W F H F' H') : Sub F H F' H' := fun a f => by
  refine ⟨x.up a f, ?_⟩
  cases e : H a with
  | none => exact absurd e (k.tr a f)
  | some o => exact x.kp a o e (k.np f)
theorem Ext.refl {W : Wd} {F : Addr → Prop} {H : Hp} (k : Okk W F H) : Ext W F H F H := ⟨fun _ f => f, fun _ f => .inl f, fun _ _ e _ => e, k⟩
theorem Ext.there {W : Wd} {F F' : Addr → Prop} {H H' : Hp} (k : Okk W F H) (x : Ext W F H F' H') {a : Addr} (h : H' a = none) : H a = none := by
  cases e : H a with
  | none => rfl
  | some o =>
    by_cases z : ∃ p c, W.po = some (p, c) ∧ a = p
    · obtain ⟨p, c, e1, rfl⟩ := z
      obtain ⟨⟨_, _, _, _, _, _, q, _⟩, _⟩ := x.ok.po _ _ e1
      rw [q] at h
      cases h
    · rw [x.kp a o e (fun p c e1 e2 => z ⟨p, c, e1, e2⟩)] at h
      cases h
theorem Ext.trans {W : Wd} {F F' F2 : Addr → Prop} {H H' H2 : Hp} (k : Okk W F H) (x : Ext W F H F' H') (y : Ext W F' H' F2 H2) : Ext W F H F2 H2 :=
  ⟨fun a f => y.up a (x.up a f), fun a f => by
    rcases y.dn a f with z | z
    · exact x.dn a z
    · exact .inr (x.there k z), fun a o e n => y.kp a o (x.kp a o e n) n, y.ok⟩
theorem Okk.pne {W : Wd} {F : Addr → Prop} {H : Hp} (k : Okk W F H) {a : Addr} (n : H a = none) : ∀ p c, W.po = some (p, c) → a ≠ p ∧ a ≠ c := fun p c e => by
  obtain ⟨⟨ns, i, m, s, b, z, h1, h2, _⟩, _⟩ := k.po p c e
  exact ⟨(ne_of_none h1 n).symm, (ne_of_none h2 n).symm⟩
/-- a new object, settled at once -/
theorem Ext.new {W : Wd} {F : Addr → Prop} {H : Hp} (k : Okk W F H) {a : Addr} {o : HO} (n : H a = none) : Ext W F H (fun b => F b ∨ b = a) (upd H a o) := by
  refine ⟨fun _ f => .inl f, fun b f => ?_, fun b u e _ => ?_, ⟨fun b f => ?_, fun p c e => ?_⟩⟩
  · rcases f with f | rfl
    · exact .inl f
    · exact .inr n
  · rw [upd_ne (ne_of_none e n)]
    exact e
  · by_cases h : b = a
    · subst h
      rw [upd_same]
      exact fun z => (by cases z)
    · rw [upd_ne h]
      rcases f with f | f
      · exact k.tr b f
      · exact absurd f h
  · obtain ⟨h1, h2, h3⟩ := k.po p c e
    have ne := k.pne n p c e
    refine ⟨h1.mut ne.1 ne.2, fun f => ?_, fun f => ?_⟩
    · rcases f with f | f
      · exact h2 f
      · exact ne.1 f.symm
    · rcases f with f | f
      · exact h3 f
      · exact ne.2 f.symm
/-- a new object that is not settled yet -/
theorem Ext.lay {W : Wd} {F : Addr → Prop} {H : Hp} (k : Okk W F H) {a : Addr} {o : HO} (n : H a = none) : Ext W F H F (upd H a o) := by
  refine ⟨fun _ f => f, fun b f => .inl f, fun b u e _ => ?_, ⟨fun b f => ?_, fun p c e => ?_⟩⟩
  · rw [upd_ne (ne_of_none e n)]
    exact e
  · have h : b ≠ a := fun z => k.tr b f (by rw [z]; exact n)
    rw [upd_ne h]
    exact k.tr b f
  · obtain ⟨h1, h2, h3⟩ := k.po p c e
    have ne := k.pne n p c e
    exact ⟨h1.mut ne.1 ne.2, h2, h3⟩
/-- what a slot of a frame holds: nothing that is asked, data, a list of the def's own that it still changes -/
inductive Sl where
  | u
  | d (x : Dat)
  | o (xs : List Dat)
def SlOk (W : Wd) (H0 : Hp) (F : Addr → Prop) (H : Hp) (ov : Option V) : Sl → Prop
  | .u => True
  | .d x => ∃ v, ov = some v ∧ Rv W F H v x
  | .o xs => ∃ a vs, ov = some (.ref a) ∧ ¬ F a ∧ H0 a = none ∧ H a = some (.lst vs) ∧ RvAll W F H vs xs ∧ ∀ p c, W.po = some (p, c) → a ≠ p ∧ a ≠ c
structure Mt (W : Wd) (H0 : Hp) (F : Addr → Prop) (H : Hp) (σ : L2.St) (env : List Sl) : Prop where
  ln : env.length = σ.length
  at_ : ∀ (i : Nat) (s : Sl), env[i]? = some s → ∃ ov, σ[i]? = some ov ∧ SlOk W H0 F H ov s
  own : ∀ (i j : Nat) (xs ys : List Dat) (a : Addr), env[i]? = some (.o xs) → env[j]? = some (.o ys) → σ[i]? = some (some (.ref a)) → σ[j]? = some (some (.ref a)) → i = j
theorem SlOk.ext {W : Wd} {H0 : Hp} {F F' : Addr → Prop} {H H' : Hp} {ov : Option V} (k : Okk W F H) (x : Ext W F H F' H') : ∀ {s : Sl}, SlOk W H0 F H ov s → SlOk W H0 F' H' ov s
  | .u, _ => trivial
  | .d _, ⟨v, e, r⟩ => ⟨v, e, r.sub (x.sub k)⟩
  | .o _, ⟨a, vs, e, nf, n0, h, r, np⟩ => by
    refine ⟨a, vs, e, fun f => ?_, n0, x.kp a _ h (fun p c e z => (np p c e).1 z), r.sub (x.sub k), np⟩
    rcases x.dn a f with z | z
    · exact nf z
    · rw [z] at h
      cases h
theorem Mt.ext {W : Wd} {H0 : Hp} {F F' : Addr → Prop} {H H' : Hp} {σ : L2.St} {env : List Sl} (k : Okk W F H) (x : Ext W F H F' H') (m : Mt W H0 F H σ env) : Mt W H0 F' H' σ env :=
  ⟨m.ln, fun i s e => by
    obtain ⟨ov, e1, r⟩ := m.at_ i s e
    exact ⟨ov, e1, r.ext k x⟩, m.own⟩
theorem Mt.setD {W : Wd} {H0 : Hp} {F : Addr → Prop} {H : Hp} {σ : L2.St} {env : List Sl} (m : Mt W H0 F H σ env) (i : Nat) {v : V} {d : Dat} (r : Rv W F H v d) : Mt W H0 F H (σ.set i (some v)) (env.set i (.d d)) := by
  refine ⟨by rw [List.length_set, List.length_set, m.ln], fun j s e => ?_, fun j k xs ys a e1 e2 e3 e4 => ?_⟩
  · by_cases h : j = i
    · subst h
      have hl : j < env.length := by
        have := (List.getElem?_eq_some_iff.mp e).1
        rwa [List.length_set] at this
      rw [List.getElem?_set_self hl] at e
      cases e
      exact ⟨some v, List.getElem?_set_self (by rw [← m.ln]; exact hl), v, rfl, r⟩
    · rw [List.getElem?_set_ne (Ne.symm h)] at e ⊢
      exact m.at_ j s e
  · have n1 : j ≠ i := fun z => by
      subst z
      have hl : j < env.length := by
        have := (List.getElem?_eq_some_iff.mp e1).1
        rwa [List.length_set] at this
      rw [List.getElem?_set_self hl] at e1
      cases e1
    have n2 : k ≠ i := fun z => by
      subst z
      have hl : k < env.length := by
        have := (List.getElem?_eq_some_iff.mp e2).1
        rwa [List.length_set] at this
      rw [List.getElem?_set_self hl] at e2
      cases e2
    rw [List.getElem?_set_ne (Ne.symm n1)] at e1 e3
    rw [List.getElem?_set_ne (Ne.symm n2)] at e2 e4
    exact m.own j k xs ys a e1 e2 e3 e4
abbrev AEx := List Sl → (Dat → Prop) → Prop
abbrev AFr := List Sl → (List Dat → Prop) → Prop
abbrev ATs := List Sl → (Bool → Prop) → Prop
abbrev Rel := Wd → (Addr → Prop) → Hp → V → Dat → Prop
/-- a value that is read, not kept: data, or a list that the def still changes -/
inductive Pk (W : Wd) (F : Addr → Prop) (H : Hp) : V → Dat → Prop
  | rv {v : V} {d : Dat} : Rv W F H v d → Pk W F H v d
  | own {a : Addr} {vs : List V} {ds : List Dat} : H a = some (.lst vs) → NPo W a → RvAll W F H vs ds → Pk W F H (.ref a) (.lst ds)
structure Pst (R : Rel) : Prop where
  run : ∀ {W : Wd} {F F' : Addr → Prop} {H H' : Hp} {v : V} {d : Dat}, Okk W F H → Ext W F H F' H' → R W F H v d → R W F' H' v d
theorem pst_rv : Pst Rv := ⟨fun k x r => r.sub (x.sub k)⟩
theorem pst_pk : Pst Pk := ⟨fun k x r => by
  cases r with
  | rv r => exact .rv (r.sub (x.sub k))
  | own h n r => exact .own (x.kp _ _ h n) n (r.sub (x.sub k))⟩
theorem Pk.lst {W : Wd} {F : Addr → Prop} {H : Hp} {v : V} {ds : List Dat} (k : Okk W F H) (h : Pk W F H v (.lst ds)) : ∃ a vs, v = .ref a ∧ H a = some (.lst vs) ∧ NPo W a ∧ RvAll W F H vs ds := by
  cases h with
  | rv r =>
    cases r with
    | lst f h r => exact ⟨_, _, rfl, h, k.np f, r⟩
  | own h n r => exact ⟨_, _, rfl, h, n, r⟩
structure AEg (R : Rel) (W : Wd) (H0 : Hp) (te : TE) (ae : AEx) : Prop where
  run : ∀ (σ : L2.St) (env : List Sl) (F : Addr → Prop) (H : Hp) (Q : VK) (P : Dat → Prop), Okk W F H → Mt W H0 F H σ env → ae env P → (∀ d F' H' v, P d → Ext W F H F' H' → R W F' H' v d → Q v H') → te σ H Q
abbrev AExp : Wd → Hp → TE → AEx → Prop := AEg Rv
/-- a list that is made anew -/
structure AFrs (W : Wd) (H0 : Hp) (te : TE) (ae : AFr) : Prop where
  run : ∀ (σ : L2.St) (env : List Sl) (F : Addr → Prop) (H : Hp) (Q : VK) (P : List Dat → Prop), Okk W F H → Mt W H0 F H σ env → ae env P →
    (∀ ds F' H' a vs, P ds → Ext W F H F' H' → H a = none → ¬ F' a → H' a = some (.lst vs) → RvAll W F' H' vs ds → Q (.ref a) H') → te σ H Q
structure ATst (W : Wd) (H0 : Hp) (tt : TT) (at_ : ATs) : Prop where
  run : ∀ (σ : L2.St) (env : List Sl) (F : Addr → Prop) (H : Hp) (Q : Bool → Hp → Prop) (P : Bool → Prop), Okk W F H → Mt W H0 F H σ env → at_ env P → (∀ b F' H', P b → Ext W F H F' H' → Q b H') → tt σ H Q
/-- arguments, n of them -/
structure AArg (W : Wd) (H0 : Hp) (n : Nat) (ta : TA) (aa : AFr) : Prop where
  run : ∀ (σ : L2.St) (env : List Sl) (F : Addr → Prop) (H : Hp) (Q : List V → Hp → Prop) (P : List Dat → Prop), Okk W F H → Mt W H0 F H σ env → aa env P →
    (∀ ds F' H' vs, P ds → Ext W F H F' H' → RvAll W F' H' vs ds → ds.length = n → Q vs H') → ta σ H Q
def dAt : List Sl → Nat → Sl
  | [], _ => .u
  | s :: _, 0 => s
  | _ :: r, i + 1 => dAt r i
theorem dAt_get : ∀ {env : List Sl} {i : Nat} {s : Sl}, dAt env i = s → s ≠ .u → env[i]? = some s
  | [], _, _, e, n => absurd e.symm n
  | s :: _, 0, _, e, _ => congrArg some e
  | _ :: r, i + 1, s, e, n => by
    rw [List.getElem?_cons_succ]
    exact dAt_get (env := r) e n
def dQ : Sl → (Dat → Prop) → Prop
  | .d x, P => P x
  | _, _ => False
def dQ2 : Sl → (Dat → Prop) → Prop
  | .d x, P => P x
  | .o xs, P => P (.lst xs)
  | _, _ => False
def aVar (i : Nat) : AEx := fun env P => dQ (dAt env i) P
def aPeek (i : Nat) : AEx := fun env P => dQ2 (dAt env i) P
def aC (d : Dat) : AEx := fun _ P => P d
section
variable {W : Wd} {H0 : Hp} {te ta tb : TE} {ae ea eb : AEx}
theorem a_var {i : Nat} : AExp W H0 (tVar i) (aVar i) := ⟨fun σ env F H Q P ok m h k => by
  unfold aVar at h
  cases e : dAt env i with
  | d x =>
    rw [e] at h
    obtain ⟨_, e1, v, rfl, r⟩ := m.at_ i _ (dAt_get e (fun z => by cases z))
    exact ⟨v, e1, k x F H v h (.refl ok) r⟩
  | u =>
    rw [e] at h
    exact h.elim
  | o xs =>
    rw [e] at h
    exact h.elim⟩
theorem a_peek {i : Nat} : AEg Pk W H0 (tVar i) (aPeek i) := ⟨fun σ env F H Q P ok m h k => by
  unfold aPeek at h
  cases e : dAt env i with
  | d x =>
    rw [e] at h
    obtain ⟨_, e1, v, rfl, r⟩ := m.at_ i _ (dAt_get e (fun z => by cases z))
    exact ⟨v, e1, k x F H v h (.refl ok) (.rv r)⟩
  | u =>
    rw [e] at h
    exact h.elim
  | o xs =>
    rw [e] at h
    obtain ⟨_, e1, a, vs, rfl, nf, n0, ha, r, np⟩ := m.at_ i _ (dAt_get e (fun z => by cases z))
    exact ⟨_, e1, k _ F H _ h (.refl ok) (.own ha (fun p c e => (np p c e).1) r)⟩⟩
theorem a_pk (h : AExp W H0 te ae) : AEg Pk W H0 te ae := ⟨fun σ env F H Q P ok m q k => h.run σ env F H Q P ok m q fun d F' H' v p x r => k d F' H' v p x (.rv r)⟩
theorem a_int {i : Int} : AExp W H0 (tC (.int i)) (aC (.int i)) := ⟨fun _ _ F H _ _ ok _ h k => k _ F H _ h (.refl ok) (.int i)⟩
theorem a_bl {b : Bool} : AExp W H0 (tC (.bl b)) (aC (.bl b)) := ⟨fun _ _ F H _ _ ok _ h k => k _ F H _ h (.refl ok) (.bl b)⟩
theorem a_str {x : Str} : AExp W H0 (tC (.str x)) (aC (.str x)) := ⟨fun _ _ F H _ _ ok _ h k => k _ F H _ h (.refl ok) (.str x)⟩
theorem a_non : AExp W H0 (tC .non) (aC .non) := ⟨fun _ _ F H _ _ ok _ h k => k _ F H _ h (.refl ok) .non⟩
/-- a new list, settled at once -/
def aFz (ae : AFr) : AEx := fun env P => ae env fun ds => P (.lst ds)
theorem Ext.fz {F F' : Addr → Prop} {H H' : Hp} {a : Addr} {o : HO} (ok : Okk W F H) (x : Ext W F H F' H') (n : H a = none) (h : H' a = some o) : Ext W F H (fun b => F' b ∨ b = a) H' := by
  have tr : ∀ b, (F' b ∨ b = a) → H' b ≠ none := fun b f => by
    rcases f with f | rfl
    · exact x.ok.tr b f
    · rw [h]
      exact fun z => by cases z
  have po : ∀ p c, W.po = some (p, c) → PoolAt H' p c ∧ ¬ (F' p ∨ p = a) ∧ ¬ (F' c ∨ c = a) := fun p c e => by
    obtain ⟨h1, h2, h3⟩ := x.ok.po p c e
    have ne := ok.pne n p c e
    refine ⟨h1, fun f => ?_, fun f => ?_⟩
    · rcases f with f | f
      · exact h2 f
      · exact ne.1 f.symm
    · rcases f with f | f
      · exact h3 f
      · exact ne.2 f.symm
  refine ⟨fun b f => .inl (x.up b f), fun b f => ?_, x.kp, ⟨tr, po⟩⟩
  rcases f with f | rfl
  · exact x.dn b f
  · exact .inr n
theorem sub_fz {F' : Addr → Prop} {H' : Hp} (a : Addr) : Sub F' H' (fun b => F' b ∨ b = a) H' := fun _ f => ⟨.inl f, rfl⟩
theorem a_fz {af : AFr} (h : AFrs W H0 te af) : AExp W H0 te (aFz af) := ⟨fun σ env F H Q P ok m q k => h.run σ env F H Q (fun ds => P (.lst ds)) ok m q fun ds F' H' a vs p x n nf ha r =>
  k (.lst ds) (fun b => F' b ∨ b = a) H' (.ref a) p (x.fz ok n ha) (.lst (.inr rfl) ha (r.sub (sub_fz a)))⟩
def a2 (f : Dat → Dat → (Dat → Prop) → Prop) (ea eb : AEx) : AEx := fun env P => ea env fun x => eb env fun y => f x y P
/-- an operation on values reads as f on data -/
def ROk (W : Wd) (S1 S2 S3 : Rel) (r : L2.R2) (f : Dat → Dat → (Dat → Prop) → Prop) : Prop :=
  ∀ (F : Addr → Prop) (H : Hp) (x y : V) (d e : Dat) (Q : VK) (P : Dat → Prop), Okk W F H → S1 W F H x d → S2 W F H y e → f d e P → (∀ z F' H' v, P z → Ext W F H F' H' → S3 W F' H' v z → Q v H') → r x y H Q
theorem a_op {S1 S2 S3 : Rel} {r : L2.R2} {f : Dat → Dat → (Dat → Prop) → Prop} (pr : Pst S1) (hr : ROk W S1 S2 S3 r f) (ha : AEg S1 W H0 ta ea) (hb : AEg S2 W H0 tb eb) : AEg S3 W H0 (tOp r ta tb) (a2 f ea eb) :=
  ⟨fun σ env F H Q P ok m q k => ha.run σ env F H _ _ ok m q fun d F1 H1 v p1 x1 r1 => hb.run σ env F1 H1 _ _ x1.ok (m.ext ok x1) p1 fun e F2 H2 u p2 x2 r2 =>
    hr F2 H2 v u d e Q P x2.ok (pr.run x1.ok x2 r1) r2 p2 fun z F3 H3 w p3 x3 r3 => k z F3 H3 w p3 ((x1.trans ok x2).trans ok x3) r3⟩
def kI (C : Int → Int → Prop) (g : Int → Int → Dat) : Dat → Dat → (Dat → Prop) → Prop
  | .int i, .int j, P => C i j ∧ P (g i j)
  | _, _, _ => False
def kI0 (g : Int → Int → Dat) : Dat → Dat → (Dat → Prop) → Prop
  | .int i, .int j, P => P (g i j)
  | _, _, _ => False
theorem rok_I {C : Int → Int → Prop} {g : Int → Int → Int} : ROk W Rv Rv Rv (rI C fun i j => .int (g i j)) (kI C fun i j => .int (g i j)) := fun F H x y d e Q P ok r1 r2 q k => by
  cases r1 <;> cases r2 <;> first | exact q.elim | exact ⟨_, _, rfl, rfl, q.1, k _ F H _ q.2 (.refl ok) (.int _)⟩
theorem rok_I0 {g : Int → Int → Int} : ROk W Rv Rv Rv (rI0 fun i j => .int (g i j)) (kI0 fun i j => .int (g i j)) := fun F H x y d e Q P ok r1 r2 q k => by
  cases r1 <;> cases r2 <;> first | exact q.elim | exact ⟨_, _, rfl, rfl, k _ F H _ q (.refl ok) (.int _)⟩
theorem rok_B0 {g : Int → Int → Bool} : ROk W Rv Rv Rv (rI0 fun i j => .bl (g i j)) (kI0 fun i j => .bl (g i j)) := fun F H x y d e Q P ok r1 r2 q k => by
  cases r1 <;> cases r2 <;> first | exact q.elim | exact ⟨_, _, rfl, rfl, k _ F H _ q (.refl ok) (.bl _)⟩
/-- == of two ints, texts, bools or None -/
def kEq (n : Bool) : Dat → Dat → (Dat → Prop) → Prop
  | .int i, .int j, P => P (.bl (if n then !decide (i = j) else decide (i = j)))
  | .str i, .str j, P => P (.bl (if n then !decide (i = j) else decide (i = j)))
  | .bl i, .bl j, P => P (.bl (if n then !decide (i = j) else decide (i = j)))
  | .non, .non, P => P (.bl (!n))
  | .non, .int _, P => P (.bl n)
  | .non, .bl _, P => P (.bl n)
  | .non, .str _, P => P (.bl n)
  | .int _, .non, P => P (.bl n)
  | .bl _, .non, P => P (.bl n)
  | .str _, .non, P => P (.bl n)
  | .int _, .str _, P => P (.bl n)
  | .str _, .int _, P => P (.bl n)
  | .bl _, .str _, P => P (.bl n)
  | .str _, .bl _, P => P (.bl n)
  | _, _, _ => False
theorem dec_i {i j : Int} : decide (V.int i = V.int j) = decide (i = j) := by
  by_cases h : i = j
  · subst h; simp
  · rw [decide_eq_false h, decide_eq_false (fun z => h (V.int.inj z))]
theorem dec_s {i j : Str} : decide (V.str i = V.str j) = decide (i = j) := by
  by_cases h : i = j
  · subst h; simp
  · rw [decide_eq_false h, decide_eq_false (fun z => h (V.str.inj z))]
theorem dec_b {i j : Bool} : decide (V.bl i = V.bl j) = decide (i = j) := by
  cases i <;> cases j <;> rfl
theorem rok_eq : ROk W Rv Rv Rv rEq (kEq false) := fun F H x y d e Q P ok r1 r2 q k => by
  cases r1 <;> cases r2 <;> first
    | exact q.elim
    | exact ⟨rfl, by rw [dec_i]; exact k _ F H _ q (.refl ok) (.bl _)⟩
    | exact ⟨rfl, by rw [dec_s]; exact k _ F H _ q (.refl ok) (.bl _)⟩
    | exact ⟨rfl, by rw [dec_b]; exact k _ F H _ q (.refl ok) (.bl _)⟩
    | exact ⟨rfl, k _ F H _ q (.refl ok) (.bl _)⟩
theorem rok_ne : ROk W Rv Rv Rv rNe (kEq true) := fun F H x y d e Q P ok r1 r2 q k => by
  cases r1 <;> cases r2 <;> first
    | exact q.elim
    | exact ⟨rfl, by rw [dec_i]; exact k _ F H _ q (.refl ok) (.bl _)⟩
    | exact ⟨rfl, by rw [dec_s]; exact k _ F H _ q (.refl ok) (.bl _)⟩
    | exact ⟨rfl, by rw [dec_b]; exact k _ F H _ q (.refl ok) (.bl _)⟩
    | exact ⟨rfl, k _ F H _ q (.refl ok) (.bl _)⟩
/-- x[i] -/
def oQ {α : Type} : Option α → (α → Prop) → Prop
  | some x, P => P x
  | none, _ => False
def kIx : Dat → Dat → (Dat → Prop) → Prop
  | .lst xs, .int i, P => oQ (atI xs i) P
  | .tup xs, .int i, P => oQ (atI xs i) P
  | _, _, _ => False
theorem RvAll.atI {F : Addr → Prop} {H : Hp} {vs : List V} {ds : List Dat} {i : Int} {d : Dat} (r : RvAll W F H vs ds) (e : L2.atI ds i = some d) : ∃ v, L2.atI vs i = some v ∧ Rv W F H v d := by
  unfold L2.atI at e ⊢
  rw [r.length]
  cases h : ixN ds.length i with
  | none =>
    rw [h] at e
    cases e
  | some j =>
    rw [h] at e
    exact r.get e
theorem rok_ixl : ROk W Pk Rv Rv (rIxL W.K) (fun x y P => match x with | .lst _ => kIx x y P | _ => False) := fun F H x y d e Q P ok r1 r2 q k => by
  cases d with
  | lst xs =>
    obtain ⟨a, vs, rfl, ha, np, r⟩ := r1.lst ok
    cases r2 with
    | int i =>
      have q : oQ (atI xs i) P := q
      cases h : atI xs i with
      | none =>
        rw [h] at q
        exact q.elim
      | some z =>
        rw [h] at q
        obtain ⟨v, e1, rv⟩ := r.atI h
        exact ⟨a, vs, i, v, rfl, rfl, SqL.of ha, e1, k z F H v q (.refl ok) rv⟩
    | _ => exact q.elim
  | _ => exact q.elim
theorem rok_ixt : ROk W Pk Rv Rv (rIxT W.K) (fun x y P => match x with | .tup _ => kIx x y P | _ => False) := fun F H x y d e Q P ok r1 r2 q k => by
  cases d with
  | tup xs =>
    cases r1 with
    | rv r1 =>
      cases r1 with
      | tup ha r =>
        cases r2 with
        | int i =>
          have q : oQ (atI xs i) P := q
          cases h : atI xs i with
          | none =>
            rw [h] at q
            exact q.elim
          | some z =>
            rw [h] at q
            obtain ⟨v, e1, rv⟩ := r.atI h
            exact ⟨_, _, i, v, rfl, rfl, ha.sq, e1, k z F H v q (.refl ok) rv⟩
        | _ => exact q.elim
  | _ => exact q.elim
theorem rok_ix : ROk W Pk Rv Rv (rIx W.K) kIx := fun F H x y d e Q P ok r1 r2 q k => by
  cases d with
  | lst xs => exact .inl (rok_ixl F H x y _ e Q P ok r1 r2 q k)
  | tup xs => exact .inr (.inl (rok_ixt F H x y _ e Q P ok r1 r2 q k))
  | _ => exact q.elim
end
section
variable {W : Wd} {H0 : Hp} {te ta tb tc : TE} {ae ea eb ec : AEx} {t u : TT} {at_ au : ATs}
def aNil : AFr := fun _ P => P []
def aCons (ea : AEx) (er : AFr) : AFr := fun env P => ea env fun x => er env fun xs => P (x :: xs)
theorem a_nil : AArg W H0 0 tNil aNil := ⟨fun _ _ F H _ _ ok _ h k => k [] F H [] h (.refl ok) .nil rfl⟩
theorem a_cons {n : Nat} {tr : TA} {er : AFr} (ha : AExp W H0 ta ea) (hr : AArg W H0 n tr er) : AArg W H0 (n + 1) (tCons ta tr) (aCons ea er) :=
  ⟨fun σ env F H Q P ok m q k => ha.run σ env F H _ _ ok m q fun d F1 H1 v p1 x1 r1 => hr.run σ env F1 H1 _ _ x1.ok (m.ext ok x1) p1 fun ds F2 H2 vs p2 x2 r2 l2 =>
    k (d :: ds) F2 H2 (v :: vs) p2 (x1.trans ok x2) (.cons (r1.sub (x2.sub x1.ok)) r2) (congrArg (· + 1) l2)⟩
def aTup (aa : AFr) : AEx := fun env P => aa env fun ds => P (.tup ds)
theorem a_tup {n : Nat} {tr : TA} {aa : AFr} (h : AArg W H0 n tr aa) (hn : n ≤ 100000 := by decide) : AExp W H0 (tTupF tr) (aTup aa) :=
  ⟨fun σ env F H Q P ok m q k => h.run σ env F H _ _ ok m q fun ds F1 H1 vs p1 x1 r1 l1 => ⟨Nat.le_of_lt (len_size (by rw [r1.length]; omega)), fun a o n tp => by
    have x2 : Ext W F1 H1 _ _ := Ext.new (o := o) x1.ok n
    exact k (.tup ds) _ _ _ p1 (x1.trans ok x2) (.tup ⟨.inr rfl, o, upd_same, tp⟩ (r1.sub (x2.sub x1.ok)))⟩⟩
theorem a_lst {n : Nat} {tr : TA} {aa : AFr} (h : AArg W H0 n tr aa) (hn : n ≤ 100000 := by decide) : AFrs W H0 (tLst tr) aa :=
  ⟨fun σ env F H Q P ok m q k => h.run σ env F H _ _ ok m q fun ds F1 H1 vs p1 x1 r1 l1 => ⟨Nat.le_of_lt (len_size (by rw [r1.length]; omega)), fun a n => by
    have x2 : Ext W F1 H1 _ _ := Ext.lay (o := .lst vs) x1.ok n
    exact k ds _ _ a vs p1 (x1.trans ok x2) (x1.there ok n) (fun f => x1.ok.tr a f n) upd_same (r1.sub (x2.sub x1.ok))⟩⟩
def aTest (ea : AEx) : ATs := fun env P => ea env fun x => match x with | .bl b => P b | _ => False
theorem a_test (h : AExp W H0 ta ea) : ATst W H0 (tTest ta) (aTest ea) := ⟨fun σ env F H Q P ok m q k => h.run σ env F H _ _ ok m q fun d F1 H1 v p1 x1 r1 => by
  cases r1 <;> first | exact p1.elim | exact ⟨_, rfl, k _ F1 H1 p1 x1⟩⟩
theorem a_tb (h : AExp W H0 ta ea) : ATst W H0 (tB ta) (aTest ea) := ⟨fun σ env F H Q P ok m q k => h.run σ env F H _ _ ok m q fun d F1 H1 v p1 x1 r1 => by
  cases r1 <;> first | exact p1.elim | exact ⟨_, rfl, k _ F1 H1 p1 x1⟩⟩
def aNot (a : ATs) : ATs := fun env P => a env fun b => P (!b)
theorem a_not (h : ATst W H0 t at_) : ATst W H0 (tNot t) (aNot at_) := ⟨fun σ env F H Q P ok m q k => h.run σ env F H _ _ ok m q fun b F1 H1 p1 x1 => k _ F1 H1 p1 x1⟩
/-- two ways by a bool: kept together, so that it can be told first -/
def two (b : Bool) (p q : Prop) : Prop := match b with
  | true => p
  | false => q
def aAnd (a c : ATs) : ATs := fun env P => a env fun b => two b (c env P) (P false)
def aOr (a c : ATs) : ATs := fun env P => a env fun b => two b (P true) (c env P)
theorem a_and (h : ATst W H0 t at_) (h2 : ATst W H0 u au) : ATst W H0 (tAnd t u) (aAnd at_ au) := ⟨fun σ env F H Q P ok m q k => h.run σ env F H _ _ ok m q fun b F1 H1 p1 x1 => by
  cases b with
  | true =>
    rw [if_pos rfl]
    exact h2.run σ env F1 H1 _ _ x1.ok (m.ext ok x1) p1 fun b F2 H2 p2 x2 => k b F2 H2 p2 (x1.trans ok x2)
  | false =>
    rw [if_neg Bool.false_ne_true]
    exact k false F1 H1 p1 x1⟩
theorem a_or (h : ATst W H0 t at_) (h2 : ATst W H0 u au) : ATst W H0 (tOr t u) (aOr at_ au) := ⟨fun σ env F H Q P ok m q k => h.run σ env F H _ _ ok m q fun b F1 H1 p1 x1 => by
  cases b with
  | true =>
    rw [if_pos rfl]
    exact k true F1 H1 p1 x1
  | false =>
    rw [if_neg Bool.false_ne_true]
    exact h2.run σ env F1 H1 _ _ x1.ok (m.ext ok x1) p1 fun b F2 H2 p2 x2 => k b F2 H2 p2 (x1.trans ok x2)⟩
def bQ : Dat → (Bool → Prop) → Prop
  | .bl b, P => P b
  | _, _ => False
def aAndV (ea eb : AEx) : AEx := fun env P => ea env fun x => bQ x fun b => two b (eb env P) (P (.bl false))
def aOrV (ea eb : AEx) : AEx := fun env P => ea env fun x => bQ x fun b => two b (P (.bl true)) (eb env P)
def aNotV (ea : AEx) : AEx := fun env P => ea env fun x => bQ x fun b => P (.bl (!b))
theorem a_andV (ha : AExp W H0 ta ea) (hb : AExp W H0 tb eb) : AExp W H0 (tAndV ta tb) (aAndV ea eb) := ⟨fun σ env F H Q P ok m q k => ha.run σ env F H _ _ ok m q fun d F1 H1 v p1 x1 r1 => by
  cases r1 with
  | bl b =>
    refine ⟨b, rfl, ?_⟩
    cases b with
    | true =>
      rw [if_pos rfl]
      exact hb.run σ env F1 H1 _ _ x1.ok (m.ext ok x1) p1 fun e F2 H2 w p2 x2 r2 => k e F2 H2 w p2 (x1.trans ok x2) r2
    | false =>
      rw [if_neg Bool.false_ne_true]
      exact k _ F1 H1 _ p1 x1 (.bl false)
  | _ => exact p1.elim⟩
theorem a_orV (ha : AExp W H0 ta ea) (hb : AExp W H0 tb eb) : AExp W H0 (tOrV ta tb) (aOrV ea eb) := ⟨fun σ env F H Q P ok m q k => ha.run σ env F H _ _ ok m q fun d F1 H1 v p1 x1 r1 => by
  cases r1 with
  | bl b =>
    refine ⟨b, rfl, ?_⟩
    cases b with
    | true =>
      rw [if_pos rfl]
      exact k _ F1 H1 _ p1 x1 (.bl true)
    | false =>
      rw [if_neg Bool.false_ne_true]
      exact hb.run σ env F1 H1 _ _ x1.ok (m.ext ok x1) p1 fun e F2 H2 w p2 x2 r2 => k e F2 H2 w p2 (x1.trans ok x2) r2
  | _ => exact p1.elim⟩
theorem a_notV (ha : AExp W H0 ta ea) : AExp W H0 (tNotV ta) (aNotV ea) := ⟨fun σ env F H Q P ok m q k => ha.run σ env F H _ _ ok m q fun d F1 H1 v p1 x1 r1 => by
  cases r1 with
  | bl b => exact ⟨b, rfl, k _ F1 H1 _ p1 x1 (.bl _)⟩
  | _ => exact p1.elim⟩
def aIf (c : ATs) (ea eb : AEx) : AEx := fun env P => c env fun b => two b (ea env P) (eb env P)
theorem a_if (h : ATst W H0 t at_) (ha : AExp W H0 ta ea) (hb : AExp W H0 tb eb) : AExp W H0 (tIf t ta tb) (aIf at_ ea eb) := ⟨fun σ env F H Q P ok m q k => h.run σ env F H _ _ ok m q fun b F1 H1 p1 x1 => by
  cases b with
  | true =>
    rw [if_pos rfl]
    exact ha.run σ env F1 H1 _ _ x1.ok (m.ext ok x1) p1 fun e F2 H2 w p2 x2 r2 => k e F2 H2 w p2 (x1.trans ok x2) r2
  | false =>
    rw [if_neg Bool.false_ne_true]
    exact hb.run σ env F1 H1 _ _ x1.ok (m.ext ok x1) p1 fun e F2 H2 w p2 x2 r2 => k e F2 H2 w p2 (x1.trans ok x2) r2⟩
/-- a < b < c -/
def aChain (f g : Dat → Dat → (Dat → Prop) → Prop) (ea eb ec : AEx) : AEx := fun env P => ea env fun x => eb env fun y => f x y fun z => bQ z fun b => two b (ec env fun w => g y w P) (P (.bl false))
theorem a_chain {r r' : L2.R2} {f g : Dat → Dat → (Dat → Prop) → Prop} (hr : ROk W Rv Rv Rv r f) (hr' : ROk W Rv Rv Rv r' g) (ha : AExp W H0 ta ea) (hb : AExp W H0 tb eb) (hc : AExp W H0 tc ec) : AExp W H0 (tChain r r' ta tb tc) (aChain f g ea eb ec) :=
  ⟨fun σ env F H Q P ok m q k => ha.run σ env F H _ _ ok m q fun d F1 H1 v p1 x1 r1 => hb.run σ env F1 H1 _ _ x1.ok (m.ext ok x1) p1 fun e F2 H2 w p2 x2 r2 => by
    have ok2 := x2.ok
    have x12 := x1.trans ok x2
    refine hr F2 H2 v w d e _ _ ok2 (r1.sub (x2.sub x1.ok)) r2 p2 fun z F3 H3 y p3 x3 r3 => ?_
    have x13 := x12.trans ok x3
    cases r3 with
    | bl b =>
      refine ⟨b, rfl, ?_⟩
      cases b with
      | true =>
        rw [if_pos rfl]
        exact hc.run σ env F3 H3 _ _ x3.ok (m.ext ok x13) p3 fun c F4 H4 y p4 x4 r4 => hr' F4 H4 w y e c _ _ x4.ok ((r2.sub (x3.sub ok2)).sub (x4.sub x3.ok)) r4 p4 fun z F5 H5 y p5 x5 r5 => k z F5 H5 y p5 ((x13.trans ok x4).trans ok x5) r5
      | false =>
        rw [if_neg Bool.false_ne_true]
        exact k _ F3 H3 _ p3 x13 (.bl false)
    | _ => exact p3.elim⟩
def a1 (f : Dat → (Dat → Prop) → Prop) (ea : AEx) : AEx := fun env P => ea env fun x => f x P
def kNeg : Dat → (Dat → Prop) → Prop
  | .int i, P => P (.int (-i))
  | _, _ => False
theorem a_neg (ha : AExp W H0 ta ea) : AExp W H0 (tUn (rU fun i => .int (-i)) ta) (a1 kNeg ea) := ⟨fun σ env F H Q P ok m q k => ha.run σ env F H _ _ ok m q fun d F1 H1 v p1 x1 r1 => by
  cases r1 with
  | int i => exact ⟨i, rfl, k _ F1 H1 _ p1 x1 (.int _)⟩
  | _ => exact p1.elim⟩
/-- the field i of an object of the class k -/
def kFld (c i : Nat) : Dat → (Dat → Prop) → Prop
  | .obj c' ds, P => c' = c ∧ oQ ds[i]? P
  | _, _ => False
theorem a_fld {c i : Nat} {f : Str} (cl : Cls W.K (W.ca c)) (na : NoAttr W.K (W.ca c) f) (hf : (clsN c)[i]? = some f) (ha : AExp W H0 ta ea) : AExp W H0 (tFld W.K ta f) (a1 (kFld c i) ea) := ⟨fun σ env F H Q P ok m q k => ha.run σ env F H _ _ ok m q fun d F1 H1 v p1 x1 r1 => by
  cases r1 with
  | @obj a dx c' fs ds fa hA rf no =>
    obtain ⟨rfl, p1⟩ := p1
    cases e : ds[i]? with
    | none =>
      rw [e] at p1
      exact p1.elim
    | some d =>
      rw [e] at p1
      obtain ⟨v, e1, rv⟩ := rf.get hf e
      exact ⟨a, _, dx, fs, v, rfl, hA, cl, na, e1, k d F1 H1 v p1 x1 rv⟩
  | _ => exact p1.elim⟩
def kIsN (n : Bool) : Dat → Dat → (Dat → Prop) → Prop := fun x y P => match y with
  | .non => (match x with
    | .non => P (.bl (!n))
    | _ => P (.bl n))
  | _ => False
theorem rok_isN : ROk W Rv Rv Rv (fun x y H Q => y = V.non ∧ Q (.bl (decide (x = V.non))) H) (kIsN false) := fun F H x y d e Q P ok r1 r2 q k => by
  cases r2 with
  | non => exact ⟨rfl, by cases r1 <;> exact k _ F H _ q (.refl ok) (.bl _)⟩
  | _ => exact q.elim
theorem rok_notN : ROk W Rv Rv Rv (fun x y H Q => y = V.non ∧ Q (.bl (!decide (x = V.non))) H) (kIsN true) := fun F H x y d e Q P ok r1 r2 q k => by
  cases r2 with
  | non => exact ⟨rfl, by cases r1 <;> exact k _ F H _ q (.refl ok) (.bl _)⟩
  | _ => exact q.elim
end
abbrev ASp := List Dat → (Dat → Prop) → Prop
abbrev ASpF := List Dat → (List Dat → Prop) → Prop
def toSp (K : PySem.W.Frag) (ca : Nat → Addr) (asp : ASp) : Sp := fun vs H Q _ => ∃ (po : Option (Addr × Addr)) (F : Addr → Prop) (ds : List Dat) (P : Dat → Prop), Okk ⟨K, ca, po⟩ F H ∧ RvAll ⟨K, ca, po⟩ F H vs ds ∧ asp ds P ∧
  ∀ d F' H' v, P d → Ext ⟨K, ca, po⟩ F H F' H' → Rv ⟨K, ca, po⟩ F' H' v d → Q v H'
def aCall (asp : ASp) (aa : AFr) : AEx := fun env P => aa env fun ds => asp ds P
/-- a method: the object ahead of the arguments -/
def aMeth (c : Nat) (asp : ASp) (ea : AEx) (aa : AFr) : AEx := fun env P => ea env fun x => (match x with
  | .obj c' _ => c' = c
  | _ => False) ∧ aa env fun ds => asp (x :: ds) P
section
variable {K : PySem.W.Frag} {ca : Nat → Addr} {po : Option (Addr × Addr)} {H0 : Hp} {te ta tb : TE} {ae ea eb : AEx}
theorem a_call {n : Nat} {E : XK} {t : TA} {aa : AFr} {asp : ASp} (h : AArg ⟨K, ca, po⟩ H0 n t aa) : AExp ⟨K, ca, po⟩ H0 (tCall (toSp K ca asp) [] E t) (aCall asp aa) :=
  ⟨fun σ env F H Q P ok m q k => h.run σ env F H _ _ ok m q fun ds F1 H1 vs p1 x1 r1 _ => by
    rw [List.append_nil]
    exact ⟨po, F1, ds, P, x1.ok, r1, p1, fun d F' H' v p x r => k d F' H' v p (x1.trans ok x) r⟩⟩
end
structure ItOk (W : Wd) (J : It) (F : Addr → Prop) (H : Hp) (ds : List Dat) : Prop where
  it : ∀ (F2 : Addr → Prop) (H2 : Hp), Okk W F2 H2 → Sub F H F2 H2 → ∀ (i : Nat) (d : Dat), ds[i]? = some d → J.go i H2 ∧ ∀ x H3, J.yld i H2 x H3 → ∃ F3, Ext W F2 H2 F3 H3 ∧ Rv W F3 H3 x d
  done : ∀ (F2 : Addr → Prop) (H2 : Hp), Okk W F2 H2 → Sub F H F2 H2 → J.stop ds.length H2
structure AIter (W : Wd) (H0 : Hp) (wi : TI) (ai : AFr) : Prop where
  run : ∀ (σ : L2.St) (env : List Sl) (F : Addr → Prop) (H : Hp) (R : It → Hp → Prop) (P : List Dat → Prop), Okk W F H → Mt W H0 F H σ env → ai env P →
    (∀ ds F' H' J, P ds → Ext W F H F' H' → ItOk W J F' H' ds → R J H') → wi σ H R
def lQ : Dat → (List Dat → Prop) → Prop
  | .lst xs, P => P xs
  | _, _ => False
def tQ : Dat → (List Dat → Prop) → Prop
  | .tup xs, P => P xs
  | _, _ => False
/-- over a list (k = false) or a tuple (k = true) -/
def kQ (k : Bool) : Dat → (List Dat → Prop) → Prop := fun d P => match k with
  | true => tQ d P
  | false => lQ d P
def iSeq (q : Dat → (List Dat → Prop) → Prop) (ea : AEx) : AFr := fun env P => ea env fun x => q x P
def iRan (aa : AFr) : AFr := fun env P => aa env fun ds => match ds with
  | [.int j] => j < 1000000000000 ∧ -1000000000000 < j ∧ P ((List.range j.toNat).map fun (i : Nat) => Dat.int (0 + (i : Int)))
  | [.int i, .int j] => (j < 1000000000000 ∧ -1000000000000 < j ∧ i < 1000000000000 ∧ -1000000000000 < i) ∧ P ((List.range (j - i).toNat).map fun (n : Nat) => Dat.int (i + (n : Int)))
  | _ => False
section
variable {W : Wd} {H0 : Hp} {te ta tb : TE} {ae ea eb : AEx}
theorem it_list {F : Addr → Prop} {H : Hp} {a : Addr} {vs : List V} {ds : List Dat} (f : F a) (h : H a = some (.lst vs)) (r : RvAll W F H vs ds) : ItOk W (Itl W.K a) F H ds := by
  refine ⟨fun F2 H2 ok s i d e => ?_, fun F2 H2 ok s => ?_⟩
  · have h2 : H2 a = some (.lst vs) := (s a f).2.trans h
    obtain ⟨v, e1, rv⟩ := r.get e
    refine ⟨⟨vs, v, SqL.of h2, e1⟩, fun x H3 y => ?_⟩
    obtain ⟨rfl, y⟩ := y
    have e2 := y vs (SqL.of h2)
    rw [e1] at e2
    cases e2
    exact ⟨F2, .refl ok, rv.sub s⟩
  · exact ⟨vs, SqL.of ((s a f).2.trans h), by rw [r.length]; exact Nat.le_refl _⟩
theorem it_tup {F : Addr → Prop} {H : Hp} {a : Addr} {vs : List V} {ds : List Dat} (h : FzT W F H a vs) (r : RvAll W F H vs ds) : ItOk W (Itt W.K a) F H ds := by
  refine ⟨fun F2 H2 ok s i d e => ?_, fun F2 H2 ok s => ?_⟩
  · have h2 := (h.sub s).sq
    obtain ⟨v, e1, rv⟩ := r.get e
    refine ⟨⟨vs, v, h2, e1⟩, fun x H3 y => ?_⟩
    obtain ⟨rfl, y⟩ := y
    have e2 := y vs h2
    rw [e1] at e2
    cases e2
    exact ⟨F2, .refl ok, rv.sub s⟩
  · exact ⟨vs, (h.sub s).sq, by rw [r.length]; exact Nat.le_refl _⟩
theorem i_list (ha : AExp W H0 ta ea) : AIter W H0 (iList W.K ta) (iSeq lQ ea) := ⟨fun σ env F H R P ok m q k => ha.run σ env F H _ _ ok m q fun d F1 H1 v p1 x1 r1 => by
  cases r1 with
  | lst f h r => exact ⟨_, rfl, ⟨_, SqL.of h⟩, k _ F1 H1 _ p1 x1 (it_list f h r)⟩
  | _ => exact p1.elim⟩
theorem i_tup (ha : AExp W H0 ta ea) : AIter W H0 (iTup W.K ta) (iSeq tQ ea) := ⟨fun σ env F H R P ok m q k => ha.run σ env F H _ _ ok m q fun d F1 H1 v p1 x1 r1 => by
  cases r1 with
  | tup h r => exact ⟨_, rfl, ⟨_, h.sq⟩, k _ F1 H1 _ p1 x1 (it_tup h r)⟩
  | _ => exact p1.elim⟩
theorem it_ran {F : Addr → Prop} {H : Hp} (lo : Int) (n : Nat) : ItOk W (Itr lo n) F H ((List.range n).map fun (i : Nat) => Dat.int (lo + (i : Int))) := by
  refine ⟨fun F2 H2 ok s i d e => ?_, fun F2 H2 ok s => ?_⟩
  · rw [List.getElem?_map] at e
    cases h : (List.range n)[i]? with
    | none =>
      rw [h] at e
      cases e
    | some j =>
      rw [h] at e
      obtain ⟨hl, e1⟩ := List.getElem?_eq_some_iff.mp h
      rw [List.getElem_range] at e1
      subst e1
      rw [List.length_range] at hl
      cases e
      refine ⟨hl, fun x H3 y => ?_⟩
      obtain ⟨rfl, rfl⟩ := y
      exact ⟨F2, .refl ok, .int _⟩
  · rw [List.length_map, List.length_range]
    exact Nat.le_refl n
theorem i_ran1 {t : TA} {aa : AFr} (h : AArg W H0 1 t aa) : AIter W H0 (iRng1 t) (iRan aa) := ⟨fun σ env F H R P ok m q k => h.run σ env F H _ _ ok m q fun ds F1 H1 vs p1 x1 r1 l1 => by
  match ds, l1, p1, r1 with
  | [.int j], _, p1, .cons r .nil =>
    obtain ⟨p0, p2, p1⟩ := p1
    cases r
    exact ⟨j, rfl, by omega, by omega, k _ F1 H1 _ p1 x1 (it_ran 0 j.toNat)⟩⟩
end
abbrev ATg := Dat → List Sl → (List Sl → Prop) → Prop
/-- vs: the slots that it stores to -/
structure ATgt (W : Wd) (H0 : Hp) (vs : List Nat) (g : TG) (ag : ATg) : Prop where
  run : ∀ (v : V) (d : Dat) (σ : L2.St) (env : List Sl) (F : Addr → Prop) (H : Hp) (Q : L2.St → Hp → Prop) (P : List Sl → Prop), Okk W F H → Mt W H0 F H σ env → Rv W F H v d → ag d env P →
    (∀ env' σ', P env' → Mt W H0 F H σ' env' → wipe σ' vs = wipe σ vs → Q σ' H) → g v σ H Q
structure ATgs (W : Wd) (H0 : Hp) (vs : List Nat) (n : Nat) (g : TGs) (ag : List Dat → List Sl → (List Sl → Prop) → Prop) : Prop where
  run : ∀ (xs : List V) (ds : List Dat) (σ : L2.St) (env : List Sl) (F : Addr → Prop) (H : Hp) (Q : L2.St → Hp → Prop) (P : List Sl → Prop), Okk W F H → Mt W H0 F H σ env → RvAll W F H xs ds → ag ds env P →
    (∀ env' σ', P env' → Mt W H0 F H σ' env' → wipe σ' vs = wipe σ vs → Q σ' H) → g xs σ H Q
  ln : ∀ ds env P, ag ds env P → ds.length = n
def gA (i : Nat) : ATg := fun d env P => P (env.set i (.d d))
def gTu (ag : List Dat → List Sl → (List Sl → Prop) → Prop) : ATg := fun d env P => tQ d fun ds => ag ds env P
def gNilA : List Dat → List Sl → (List Sl → Prop) → Prop := fun ds env P => match ds with
  | [] => P env
  | _ :: _ => False
def gConsA (g : ATg) (ag : List Dat → List Sl → (List Sl → Prop) → Prop) : List Dat → List Sl → (List Sl → Prop) → Prop := fun ds env P => match ds with
  | [] => False
  | d :: ds => g d env fun env2 => ag ds env2 P
theorem wipe_set (σ : L2.St) (i : Nat) (x : Option V) : ∀ vs : List Nat, i ∈ vs → wipe (σ.set i x) vs = wipe σ vs
  | [], h => by cases h
  | v :: vs, h => by
    show (wipe (σ.set i x) vs).set v none = (wipe σ vs).set v none
    by_cases hv : i ∈ vs
    · rw [wipe_set σ i x vs hv]
    · have e : i = v := (List.mem_cons.mp h).resolve_right hv
      subst e
      have com : ∀ us : List Nat, i ∉ us → wipe (σ.set i x) us = (wipe σ us).set i x := fun us => by
        induction us with
        | nil => intro _; rfl
        | cons u us ih =>
          intro hu
          show (wipe (σ.set i x) us).set u none = ((wipe σ us).set u none).set i x
          rw [ih (fun z => hu (List.mem_cons_of_mem _ z)), List.set_comm _ _ (fun z => hu (by rw [z]; exact List.mem_cons_self))]
      rw [com vs hv, List.set_set]
theorem wipe_wipe (σ : L2.St) : ∀ vs : List Nat, wipe (wipe σ vs) vs = wipe σ vs
  | [] => rfl
  | v :: vs => by
    have e := wipe_set (wipe σ vs) v none (v :: vs) List.mem_cons_self
    show wipe ((wipe σ vs).set v none) (v :: vs) = (wipe σ vs).set v none
    rw [e]
    show (wipe (wipe σ vs) vs).set v none = _
    rw [wipe_wipe σ vs]
section
variable {W : Wd} {H0 : Hp} {vs : List Nat}
theorem g_name {i : Nat} (h : i ∈ vs := by decide) : ATgt W H0 vs (gName i) (gA i) := ⟨fun v d σ env F H Q P ok m r q k => k _ _ q (m.setD i r) (wipe_set σ i _ vs h)⟩
theorem g_tup {n : Nat} {t : TGs} {ag : List Dat → List Sl → (List Sl → Prop) → Prop} (h : ATgs W H0 vs n t ag) : ATgt W H0 vs (gTup W.K n t) (gTu ag) := ⟨fun v d σ env F H Q P ok m r q k => by
  cases r with
  | tup hA rr => exact ⟨_, _, rfl, hA.sq, rr.length.trans (h.ln _ _ _ q), h.run _ _ σ env F H Q P ok m rr q k⟩
  | _ => exact q.elim⟩
theorem g_nil : ATgs W H0 vs 0 gNil gNilA := ⟨fun xs ds σ env F H Q P ok m r q k => by
  cases r with
  | nil => exact ⟨rfl, k env σ q m rfl⟩
  | cons _ _ => exact q.elim, fun ds env P q => by
  cases ds with
  | nil => rfl
  | cons _ _ => exact q.elim⟩
theorem g_cons {n : Nat} {t : TG} {ag : ATg} {u : TGs} {au : List Dat → List Sl → (List Sl → Prop) → Prop} (h : ATgt W H0 vs t ag) (h2 : ATgs W H0 vs n u au) (tot : ∀ d env P, ag d env P → ∃ env2, P env2) : ATgs W H0 vs (n + 1) (gCons t u) (gConsA ag au) := ⟨fun xs ds σ env F H Q P ok m r q k => by
  cases r with
  | nil => exact q.elim
  | cons r rs => exact ⟨_, _, rfl, h.run _ _ σ env F H _ _ ok m r q fun env2 σ2 p2 m2 w2 => h2.run _ _ σ2 env2 F H Q P ok m2 rs p2 fun env3 σ3 p3 m3 w3 => k env3 σ3 p3 m3 (w3.trans w2)⟩, fun ds env P q => by
  cases ds with
  | nil => exact q.elim
  | cons d ds =>
    obtain ⟨env2, p⟩ := tot d env _ q
    exact congrArg (· + 1) (h2.ln ds env2 P p)⟩
theorem tot_name {i : Nat} : ∀ d env P, gA i d env P → ∃ env2, P env2 := fun _ _ _ q => ⟨_, q⟩
end
def wipeA (env : List Sl) : List Nat → List Sl
  | [] => env
  | v :: vs => (wipeA env vs).set v .u
theorem Mt.wipe {W : Wd} {H0 : Hp} {F : Addr → Prop} {H : Hp} {σ : L2.St} {env : List Sl} (m : Mt W H0 F H σ env) : ∀ vs : List Nat, Mt W H0 F H (L2.wipe σ vs) (wipeA env vs)
  | [] => m
  | v :: vs => by
    have m2 := m.wipe vs
    show Mt W H0 F H ((L2.wipe σ vs).set v none) ((wipeA env vs).set v .u)
    generalize L2.wipe σ vs = σ2 at m2
    generalize wipeA env vs = env2 at m2
    refine ⟨by rw [List.length_set, List.length_set, m2.ln], fun j s e => ?_, fun j k xs ys a e1 e2 e3 e4 => ?_⟩
    · by_cases h : j = v
      · subst h
        have hl : j < env2.length := by
          have := (List.getElem?_eq_some_iff.mp e).1
          rwa [List.length_set] at this
        rw [List.getElem?_set_self hl] at e
        cases e
        exact ⟨none, List.getElem?_set_self (by rw [← m2.ln]; exact hl), trivial⟩
      · rw [List.getElem?_set_ne (Ne.symm h)] at e ⊢
        exact m2.at_ j s e
    · have n1 : ∀ {j : Nat} {xs : List Dat}, (env2.set v .u)[j]? = some (.o xs) → j ≠ v := fun {j xs} e z => by
        subst z
        have hl : j < env2.length := by
          have := (List.getElem?_eq_some_iff.mp e).1
          rwa [List.length_set] at this
        rw [List.getElem?_set_self hl] at e
        cases e
      have a1 := n1 e1
      have a2 := n1 e2
      rw [List.getElem?_set_ne (Ne.symm a1)] at e1 e3
      rw [List.getElem?_set_ne (Ne.symm a2)] at e2 e4
      exact m2.own j k xs ys a e1 e2 e3 e4
/-- the items that are made of ds, behind those of acc -/
def lcA (el : Dat → (Option Dat → Prop) → Prop) (P : List Dat → Prop) : List Dat → List Dat → Prop
  | [], acc => P acc
  | d :: ds, acc => el d fun o => match o with
    | some y => lcA el P ds (acc ++ [y])
    | none => lcA el P ds acc
def elA (ag : ATg) (at_ : ATs) (ea : AEx) (env : List Sl) : Dat → (Option Dat → Prop) → Prop := fun d P => ag d env fun env2 => at_ env2 fun b => two b (ea env2 fun y => P (some y)) (P none)
def aLc (ai : AFr) (ag : ATg) (at_ : ATs) (ea : AEx) (vs : List Nat) : AFr := fun env P => ai env fun ds => ds.length ≤ 100000 ∧ lcA (elA ag at_ ea (wipeA env vs)) P ds []
def aYes : ATs := fun _ P => P true
theorem a_yes {W : Wd} {H0 : Hp} : ATst W H0 tYes aYes := ⟨fun _ _ F H _ _ ok _ h k => k true F H h (.refl ok)⟩
theorem a_lc {W : Wd} {H0 : Hp} {wi : TI} {g : TG} {tt : TT} {te : TE} {vs : List Nat} {ai : AFr} {ag : ATg} {at_ : ATs} {ea : AEx} (hi : AIter W H0 wi ai) (hg : ATgt W H0 vs g ag) (ht : ATst W H0 tt at_) (he : AExp W H0 te ea) :
    AFrs W H0 (tLc wi g tt te vs) (aLc ai ag at_ ea vs) := ⟨fun σ env F H Q P ok m q k => hi.run σ env F H _ _ ok m q fun ds F1 H1 J p1 x1 itk => by
  intro D hD
  obtain ⟨sz, p1⟩ := p1
  have ok1 := x1.ok
  have m1 := m.ext ok x1
  have np : ∀ p c, W.po = some (p, c) → D ≠ p ∧ D ≠ c := ok1.pne hD
  refine ⟨fun i n H' => n + i = ds.length ∧ ∃ F' acc ys, Ext W F1 H1 F' H' ∧ ¬ F' D ∧ H' D = some (.lst acc) ∧ RvAll W F' H' acc ys ∧ ys.length ≤ i ∧ lcA (elA ag at_ ea (wipeA env vs)) P (ds.drop i) ys,
    ⟨ds.length, rfl, F1, [], [], Ext.lay ok1 hD, fun f => ok1.tr D f hD, upd_same, .nil, Nat.le_refl _, p1⟩, ?_⟩
  rintro i n H2 ⟨hn, F2, acc, ys, x2, nf, hA, r2, ly, p2⟩
  have ok2 := x2.ok
  by_cases hlt : i < ds.length
  · have hd : ds[i]? = some ds[i] := List.getElem?_eq_getElem hlt
    obtain ⟨go, yl⟩ := itk.it F2 H2 ok2 (x2.sub ok1) i _ hd
    rw [List.drop_eq_getElem_cons hlt] at p2
    refine .inr ⟨go, fun H' => ∃ F' acc ys, Ext W F1 H1 F' H' ∧ ¬ F' D ∧ H' D = some (.lst acc) ∧ RvAll W F' H' acc ys ∧ ys.length ≤ i + 1 ∧ lcA (elA ag at_ ea (wipeA env vs)) P (ds.drop (i + 1)) ys,
      fun H' ⟨F', acc, ys, rest⟩ => ⟨n - 1, by omega, by omega, F', acc, ys, rest⟩, fun x H3 y => ?_⟩
    obtain ⟨F3, x3, rx⟩ := yl x H3 y
    have x13 := x2.trans ok1 x3
    refine hg.run x _ _ _ F3 H3 _ _ x3.ok ((m1.ext ok1 x13).wipe vs) rx p2 fun env4 σ4 p4 m4 w4 => ?_
    refine ⟨w4.trans (wipe_wipe σ vs), ht.run σ4 env4 F3 H3 _ _ x3.ok m4 p4 fun b F5 H5 p5 x5 => ?_⟩
    have keep : ∀ {Fa Fb : Addr → Prop} {Ha Hb : Hp}, Ext W Fa Ha Fb Hb → ¬ Fa D → Ha D = some (.lst acc) → ¬ Fb D ∧ Hb D = some (.lst acc) := fun {Fa Fb Ha Hb} x nf h => by
      refine ⟨fun f => ?_, x.kp D _ h (fun p c e => (np p c e).1)⟩
      rcases x.dn D f with z | z
      · exact nf z
      · rw [z] at h
        cases h
    obtain ⟨nf3, h3⟩ := keep x3 nf hA
    obtain ⟨nf5, h5⟩ := keep x5 nf3 h3
    have x35 := x3.trans ok2 x5
    have x15 := x2.trans ok1 x35
    cases b with
    | true =>
      rw [if_pos rfl]
      refine he.run σ4 env4 F5 H5 _ _ x5.ok (m4.ext x3.ok x5) p5 fun e F6 H6 v p6 x6 r6 => ?_
      obtain ⟨nf6, h6⟩ := keep x6 nf5 h5
      have x16 := x15.trans ok1 x6
      have r26 := r2.sub ((x35.trans ok2 x6).sub ok2)
      have sb : Sub F6 H6 F6 (upd H6 D (.lst (acc ++ [v]))) := fun a f => ⟨f, upd_ne (fun z => nf6 (by rw [← z]; exact f))⟩
      refine ⟨acc, h6, len_size (by rw [r2.length]; omega), F6, _, ys ++ [e], ⟨x16.up, x16.dn, fun a o ha npa => ?_, ⟨fun a f => ?_, fun p c ep => ?_⟩⟩, nf6, upd_same, (r26.append (.cons r6 .nil)).sub sb, by rw [List.length_append]; exact Nat.succ_le_succ ly, p6⟩
      · rw [upd_ne (ne_of_none ha hD)]
        exact x16.kp a o ha npa
      · rw [(sb a f).2]
        exact x16.ok.tr a f
      · obtain ⟨h1, h2, h3⟩ := x16.ok.po p c ep
        exact ⟨h1.mut (np p c ep).1 (np p c ep).2, h2, h3⟩
    | false =>
      rw [if_neg Bool.false_ne_true]
      exact ⟨F5, acc, ys, x15, nf5, h5, r2.sub (x35.sub ok2), by omega, p5⟩
  · have e : i = ds.length := by omega
    subst e
    rw [List.drop_length] at p2
    exact .inl ⟨itk.done F2 H2 ok2 (x2.sub ok1), k ys F2 H2 D acc p2 (x1.trans ok x2) (x1.there ok hD) nf hA r2⟩⟩
structure AEnds where
  nx : List Sl → Prop
  rt : Dat → Prop
  bk : List Sl → Prop := fun _ => False
  ct : List Sl → Prop := fun _ => False
abbrev ASt := AEnds → List Sl → Prop
/-- the states of a def's body: F0, H0 its entry; what is settled in F1, H1 stays -/
structure Bse (W : Wd) (F0 : Addr → Prop) (H0 : Hp) (F1 : Addr → Prop) (H1 : Hp) (F : Addr → Prop) (H : Hp) : Prop where
  ex : Ext W F0 H0 F H
  sb : Sub F1 H1 F H
theorem Sub.trans {F F' F2 : Addr → Prop} {H H' H2 : Hp} (a : Sub F H F' H') (b : Sub F' H' F2 H2) : Sub F H F2 H2 := fun x f => ⟨(b x (a x f).1).1, (b x (a x f).1).2.trans (a x f).2⟩
theorem Sub.refl (F : Addr → Prop) (H : Hp) : Sub F H F H := fun _ f => ⟨f, rfl⟩
structure EndsOk (W : Wd) (F0 : Addr → Prop) (H0 : Hp) (F1 : Addr → Prop) (H1 : Hp) (De : Ends) (Da : AEnds) : Prop where
  nx : ∀ σ env F H, Bse W F0 H0 F1 H1 F H → Mt W H0 F H σ env → Da.nx env → De.nx σ H
  rt : ∀ v d F H, Bse W F0 H0 F1 H1 F H → Rv W F H v d → Da.rt d → De.rt v H
  bk : ∀ σ env F H, Bse W F0 H0 F1 H1 F H → Mt W H0 F H σ env → Da.bk env → De.bk σ H
  ct : ∀ σ env F H, Bse W F0 H0 F1 H1 F H → Mt W H0 F H σ env → Da.ct env → De.ct σ H
structure AStm (W : Wd) (ts : TS) (as : ASt) : Prop where
  run : ∀ (F0 : Addr → Prop) (H0 : Hp) (F1 : Addr → Prop) (H1 : Hp) (De : Ends) (Da : AEnds) (σ : L2.St) (env : List Sl) (F : Addr → Prop) (H : Hp), Okk W F0 H0 → Bse W F0 H0 F1 H1 F H → Mt W H0 F H σ env → EndsOk W F0 H0 F1 H1 De Da → as Da env → ts De σ H
theorem Bse.step {W : Wd} {F0 F1 F F' : Addr → Prop} {H0 H1 H H' : Hp} (ok0 : Okk W F0 H0) (b : Bse W F0 H0 F1 H1 F H) (x : Ext W F H F' H') : Bse W F0 H0 F1 H1 F' H' := ⟨b.ex.trans ok0 x, b.sb.trans (x.sub b.ex.ok)⟩
theorem EndsOk.mono {W : Wd} {F0 F1 F : Addr → Prop} {H0 H1 H : Hp} {De : Ends} {Da : AEnds} (s : Sub F1 H1 F H) (k : EndsOk W F0 H0 F1 H1 De Da) : EndsOk W F0 H0 F H De Da :=
  ⟨fun σ env F H b => k.nx σ env F H ⟨b.ex, s.trans b.sb⟩, fun v d F H b => k.rt v d F H ⟨b.ex, s.trans b.sb⟩, fun σ env F H b => k.bk σ env F H ⟨b.ex, s.trans b.sb⟩, fun σ env F H b => k.ct σ env F H ⟨b.ex, s.trans b.sb⟩⟩
def sNext : ASt := fun D env => D.nx env
def sSeq (a b : ASt) : ASt := fun D env => a { D with nx := b D } env
def sIf (c : ATs) (a b : ASt) : ASt := fun D env => c env fun t => two t (a D env) (b D env)
def sAsg (ea : AEx) (g : ATg) : ASt := fun D env => ea env fun d => g d env D.nx
def sSetO (i : Nat) (af : AFr) : ASt := fun D env => af env fun ds => D.nx (env.set i (.o ds))
def sRet (ea : AEx) : ASt := fun D env => ea env D.rt
def sRetN : ASt := fun D _ => D.rt .non
def sDrop (ea : AEx) : ASt := fun D env => ea env fun _ => D.nx env
def sPar (i j : Nat) (aa : AFr) : ASt := fun D env => aa env fun ds => match ds with
  | [x, y] => D.nx ((env.set i (.d x)).set j (.d y))
  | _ => False
def oQ2 : Sl → (List Dat → Prop) → Prop
  | .o xs, P => P xs
  | _, _ => False
/-- x.append(e), x a list of the def's own -/
def sApp (i : Nat) (ea : AEx) : ASt := fun D env => oQ2 (dAt env i) fun xs => xs.length < 100000 ∧ ea env fun d => D.nx (env.set i (.o (xs ++ [d])))
/-- no statement: from here on the list in slot i is only read -/
def sFz (i : Nat) (a : ASt) : ASt := fun D env => oQ2 (dAt env i) fun xs => a D (env.set i (.d (.lst xs)))
def sAug (i : Nat) (ea : AEx) (f : Dat → Dat → (Dat → Prop) → Prop) : ASt := fun D env => dQ (dAt env i) fun x => ea env fun y => f x y fun z => D.nx (env.set i (.d z))
def forA (g : ATg) (b : ASt) (D : AEnds) : List Dat → List Sl → Prop
  | [], env => D.nx env
  | d :: ds, env => g d env fun env2 => b { D with nx := forA g b D ds, ct := forA g b D ds, bk := D.nx } env2
def sFor (ai : AFr) (g : ATg) (b : ASt) : ASt := fun D env => ai env fun ds => forA g b D ds env
section
variable {W : Wd} {ts tu : TS} {as au : ASt}
theorem s_next : AStm W tNext sNext := ⟨fun F0 H0 F1 H1 De Da σ env F H ok b m k h => k.nx σ env F H b m h⟩
theorem s_seq (h1 : AStm W ts as) (h2 : AStm W tu au) : AStm W (tSeq ts tu) (sSeq as au) := ⟨fun F0 H0 F1 H1 De Da σ env F H ok b m k h =>
  h1.run F0 H0 F1 H1 { De with nx := tu De } { Da with nx := au Da } σ env F H ok b m ⟨fun σ env F H b m h => h2.run F0 H0 F1 H1 De Da σ env F H ok b m k h, k.rt, k.bk, k.ct⟩ h⟩
theorem s_if {t : TT} {c : ATs} (ht : ∀ H0, ATst W H0 t c) (h1 : AStm W ts as) (h2 : AStm W tu au) : AStm W (tIfS t ts tu) (sIf c as au) := ⟨fun F0 H0 F1 H1 De Da σ env F H ok b m k h =>
  (ht H0).run σ env F H _ _ b.ex.ok m h fun t F' H' p x => by
    have b' := b.step ok x
    have m' := m.ext b.ex.ok x
    cases t with
    | true =>
      rw [if_pos rfl]
      exact h1.run F0 H0 F1 H1 De Da σ env F' H' ok b' m' k p
    | false =>
      rw [if_neg Bool.false_ne_true]
      exact h2.run F0 H0 F1 H1 De Da σ env F' H' ok b' m' k p⟩
theorem s_asg {te : TE} {ea : AEx} {g : TG} {ag : ATg} {vs : List Nat} (he : ∀ H0, AExp W H0 te ea) (hg : ∀ H0, ATgt W H0 vs g ag) : AStm W (tAsg te g) (sAsg ea ag) := ⟨fun F0 H0 F1 H1 De Da σ env F H ok b m k h =>
  (he H0).run σ env F H _ _ b.ex.ok m h fun d F' H' v p x r => (hg H0).run v d σ env F' H' _ _ x.ok (m.ext b.ex.ok x) r p fun env' σ' p' m' _ => k.nx σ' env' F' H' (b.step ok x) m' p'⟩
theorem s_set {te : TE} {ea : AEx} {i : Nat} (he : ∀ H0, AExp W H0 te ea) : AStm W (tAsg te (gName i)) (sAsg ea (gA i)) := s_asg (vs := [i]) he fun _ => g_name List.mem_cons_self
theorem s_ret {te : TE} {ea : AEx} (he : ∀ H0, AExp W H0 te ea) : AStm W (tRet te) (sRet ea) := ⟨fun F0 H0 F1 H1 De Da σ env F H ok b m k h =>
  (he H0).run σ env F H _ _ b.ex.ok m h fun d F' H' v p x r => k.rt v d F' H' (b.step ok x) r p⟩
/-- a new list for a slot -/
theorem Mt.setO {H0 : Hp} {F : Addr → Prop} {H : Hp} {σ : L2.St} {env : List Sl} (m : Mt W H0 F H σ env) (i : Nat) {a : Addr} {vs : List V} {ds : List Dat} (nf : ¬ F a) (n0 : H0 a = none) (hA : H a = some (.lst vs)) (r : RvAll W F H vs ds) (np : ∀ p c, W.po = some (p, c) → a ≠ p ∧ a ≠ c)
    (ne : ∀ j xs, j ≠ i → env[j]? = some (.o xs) → σ[j]? ≠ some (some (.ref a))) : Mt W H0 F H (σ.set i (some (.ref a))) (env.set i (.o ds)) := by
  refine ⟨by rw [List.length_set, List.length_set, m.ln], fun j s e => ?_, fun j k xs ys b e1 e2 e3 e4 => ?_⟩
  · by_cases h : j = i
    · subst h
      have hl : j < env.length := by
        have := (List.getElem?_eq_some_iff.mp e).1
        rwa [List.length_set] at this
      rw [List.getElem?_set_self hl] at e
      cases e
      exact ⟨some (.ref a), List.getElem?_set_self (by rw [← m.ln]; exact hl), a, vs, rfl, nf, n0, hA, r, np⟩
    · rw [List.getElem?_set_ne (Ne.symm h)] at e ⊢
      exact m.at_ j s e
  · have at_i : ∀ {j : Nat} {b : Addr}, j = i → (σ.set i (some (V.ref a)))[j]? = some (some (.ref b)) → b = a := fun {j b} z e => by
      subst z
      have hl : j < σ.length := by
        have := (List.getElem?_eq_some_iff.mp e).1
        rwa [List.length_set] at this
      rw [List.getElem?_set_self hl] at e
      cases e
      rfl
    by_cases h1 : j = i
    · by_cases h2 : k = i
      · rw [h1, h2]
      · have eb := at_i h1 e3
        subst eb
        rw [List.getElem?_set_ne (Ne.symm h2)] at e2 e4
        exact absurd e4 (ne k ys h2 e2)
    · by_cases h2 : k = i
      · have eb := at_i h2 e4
        subst eb
        rw [List.getElem?_set_ne (Ne.symm h1)] at e1 e3
        exact absurd e3 (ne j xs h1 e1)
      · rw [List.getElem?_set_ne (Ne.symm h1)] at e1 e3
        rw [List.getElem?_set_ne (Ne.symm h2)] at e2 e4
        exact m.own j k xs ys b e1 e2 e3 e4
theorem s_setO {te : TE} {af : AFr} {i : Nat} (he : ∀ H0, AFrs W H0 te af) : AStm W (tAsg te (gName i)) (sSetO i af) := ⟨fun F0 H0 F1 H1 De Da σ env F H ok b m k h =>
  (he H0).run σ env F H _ _ b.ex.ok m h fun ds F' H' a vs p x n nf hA r => by
    have m' := m.ext b.ex.ok x
    refine k.nx _ _ F' H' (b.step ok x) (m'.setO i nf (b.ex.there ok n) hA r (b.ex.ok.pne n) fun j xs hj e z => ?_) p
    obtain ⟨ov, e1, b', ws, e2, _, _, hb, _⟩ := m.at_ j _ e
    rw [z] at e1
    cases e1
    cases e2
    rw [n] at hb
    cases hb⟩
/-- a list of the def's own is changed -/
theorem s_own {F0 F1 F : Addr → Prop} {H0 H1 H : Hp} {σ : L2.St} {env : List Sl} (ok : Okk W F0 H0) (b : Bse W F0 H0 F1 H1 F H) (m : Mt W H0 F H σ env) {i : Nat} {xs ys : List Dat} {a : Addr} {ws : List V} (e : env[i]? = some (.o xs)) (es : σ[i]? = some (some (.ref a)))
    (nf : ¬ F a) (n0 : H0 a = none) (np : ∀ p c, W.po = some (p, c) → a ≠ p ∧ a ≠ c) (r : RvAll W F H ws ys) : Bse W F0 H0 F1 H1 F (upd H a (.lst ws)) ∧ Mt W H0 F (upd H a (.lst ws)) σ (env.set i (.o ys)) := by
  have sb : Sub F H F (upd H a (.lst ws)) := fun c f => ⟨f, upd_ne (fun z => nf (by rw [← z]; exact f))⟩
  have okk : Okk W F (upd H a (.lst ws)) := ⟨fun c f => by
    rw [(sb c f).2]
    exact b.ex.ok.tr c f, fun p c ep => by
    obtain ⟨h1, h2, h3⟩ := b.ex.ok.po p c ep
    exact ⟨h1.mut (np p c ep).1 (np p c ep).2, h2, h3⟩⟩
  refine ⟨⟨⟨b.ex.up, b.ex.dn, fun c o hc npc => ?_, okk⟩, b.sb.trans sb⟩, ?_⟩
  · rw [upd_ne (ne_of_none hc n0)]
    exact b.ex.kp c o hc npc
  · have hl : i < env.length := (List.getElem?_eq_some_iff.mp e).1
    refine ⟨by rw [List.length_set, m.ln], fun j s ej => ?_, fun j k us vs c e1 e2 e3 e4 => ?_⟩
    · by_cases h : j = i
      · subst h
        rw [List.getElem?_set_self hl] at ej
        cases ej
        exact ⟨_, es, a, ws, rfl, nf, n0, upd_same, r.sub sb, np⟩
      · rw [List.getElem?_set_ne (Ne.symm h)] at ej
        obtain ⟨ov, eo, so⟩ := m.at_ j s ej
        refine ⟨ov, eo, ?_⟩
        cases s with
        | u => trivial
        | d x =>
          obtain ⟨v, ev, rv⟩ := so
          exact ⟨v, ev, rv.sub sb⟩
        | o us =>
          obtain ⟨c, vs, ec, nfc, n0c, hc, rc, npc⟩ := so
          subst ec
          have hca : c ≠ a := fun z => h (m.own j i us xs c ej e eo (by rw [z]; exact es))
          exact ⟨c, vs, rfl, nfc, n0c, by rw [upd_ne hca]; exact hc, rc.sub sb, npc⟩
    · have old : ∀ {j : Nat} {us : List Dat}, (env.set i (.o ys))[j]? = some (.o us) → ∃ us', env[j]? = some (.o us') := fun {j us} ej => by
        by_cases h : j = i
        · subst h
          exact ⟨_, e⟩
        · rw [List.getElem?_set_ne (Ne.symm h)] at ej
          exact ⟨_, ej⟩
      obtain ⟨_, e1⟩ := old e1
      obtain ⟨_, e2⟩ := old e2
      exact m.own j k _ _ c e1 e2 e3 e4
theorem own_at {F : Addr → Prop} {H0 H : Hp} {σ : L2.St} {env : List Sl} (m : Mt W H0 F H σ env) {i : Nat} {P : List Dat → Prop} (h : oQ2 (dAt env i) P) : ∃ xs a vs, P xs ∧ env[i]? = some (.o xs) ∧ σ[i]? = some (some (.ref a)) ∧ ¬ F a ∧ H0 a = none ∧ H a = some (.lst vs) ∧ RvAll W F H vs xs ∧ ∀ p c, W.po = some (p, c) → a ≠ p ∧ a ≠ c := by
  cases e : dAt env i with
  | o xs =>
    rw [e] at h
    have e1 := dAt_get e (fun z => by cases z)
    obtain ⟨ov, e2, a, vs, rfl, nf, n0, hA, r, np⟩ := m.at_ i _ e1
    exact ⟨xs, a, vs, h, e1, e2, nf, n0, hA, r, np⟩
  | u =>
    rw [e] at h
    exact h.elim
  | d x =>
    rw [e] at h
    exact h.elim
theorem own_ext {F F' : Addr → Prop} {H H' : Hp} {a : Addr} {vs : List V} {xs : List Dat} (ok : Okk W F H) (x : Ext W F H F' H') (nf : ¬ F a) (hA : H a = some (.lst vs)) (r : RvAll W F H vs xs) (np : ∀ p c, W.po = some (p, c) → a ≠ p ∧ a ≠ c) : ¬ F' a ∧ H' a = some (.lst vs) ∧ RvAll W F' H' vs xs := by
  refine ⟨fun f => ?_, x.kp a _ hA (fun p c e => (np p c e).1), r.sub (x.sub ok)⟩
  rcases x.dn a f with z | z
  · exact nf z
  · rw [z] at hA
    cases hA
theorem s_app {te : TE} {ea : AEx} {i : Nat} (he : ∀ H0, AExp W H0 te ea) : AStm W (tDrop (tBM W.K "list" rAppend (tVar i) (tCons te tNil))) (sApp i ea) := ⟨fun F0 H0 F1 H1 De Da σ env F H ok b m k h => by
  obtain ⟨xs, a, vs, ⟨hl, h⟩, e, es, nf, n0, hA, r, np⟩ := own_at m h
  refine ⟨_, es, .inl ⟨rfl, vs, SqL.of hA⟩, ?_⟩
  refine (he H0).run σ env F H _ _ b.ex.ok m h fun d F' H' v p x rv => ?_
  obtain ⟨nf', hA', r'⟩ := own_ext b.ex.ok x nf hA r np
  obtain ⟨b2, m2⟩ := s_own ok (b.step ok x) (m.ext b.ex.ok x) e es nf' n0 np (r'.append (.cons rv .nil))
  exact ⟨a, vs, v, rfl, rfl, hA', len_size (by rw [r.length]; omega), k.nx _ _ _ _ b2 m2 p⟩⟩
/-- the list in slot i is settled -/
theorem s_fz {i : Nat} (h1 : AStm W ts as) : AStm W ts (sFz i as) := ⟨fun F0 H0 F1 H1 De Da σ env F H ok b m k h => by
  obtain ⟨xs, a, vs, h, e, es, nf, n0, hA, r, np⟩ := own_at m h
  have nH0 : H0 a = none := n0
  have ext2 : Ext W F0 H0 (fun c => F c ∨ c = a) H := Ext.fz ok b.ex n0 hA
  have sb : Sub F H (fun c => F c ∨ c = a) H := sub_fz a
  refine h1.run F0 H0 F1 H1 De Da σ (env.set i (.d (.lst xs))) _ H ok ⟨ext2, b.sb.trans sb⟩ ?_ k h
  have hl : i < env.length := (List.getElem?_eq_some_iff.mp e).1
  refine ⟨by rw [List.length_set, m.ln], fun j s ej => ?_, fun j l us ws c e1 e2 e3 e4 => ?_⟩
  · by_cases h : j = i
    · subst h
      rw [List.getElem?_set_self hl] at ej
      cases ej
      exact ⟨_, es, _, rfl, .lst (.inr rfl) hA (r.sub sb)⟩
    · rw [List.getElem?_set_ne (Ne.symm h)] at ej
      obtain ⟨ov, eo, so⟩ := m.at_ j s ej
      refine ⟨ov, eo, ?_⟩
      cases s with
      | u => trivial
      | d x =>
        obtain ⟨v, ev, rv⟩ := so
        exact ⟨v, ev, rv.sub sb⟩
      | o us =>
        obtain ⟨c, vs, ec, nfc, n0c, hc, rc, npc⟩ := so
        subst ec
        exact ⟨c, vs, rfl, fun f => by
          rcases f with f | f
          · exact nfc f
          · exact h (m.own j i us xs c ej e eo (by rw [f]; exact es)), n0c, hc, rc.sub sb, npc⟩
  · have ne : ∀ {j : Nat} {us : List Dat}, (env.set i (.d (.lst xs)))[j]? = some (.o us) → j ≠ i := fun {j us} ej z => by
      subst z
      rw [List.getElem?_set_self hl] at ej
      cases ej
    have a1 := ne e1
    have a2 := ne e2
    rw [List.getElem?_set_ne (Ne.symm a1)] at e1
    rw [List.getElem?_set_ne (Ne.symm a2)] at e2
    exact m.own j l us ws c e1 e2 e3 e4⟩
theorem s_for {wi : TI} {ai : AFr} {g : TG} {ag : ATg} {vs : List Nat} (hi : ∀ H0, AIter W H0 wi ai) (hg : ∀ H0, ATgt W H0 vs g ag) (hb : AStm W ts as) : AStm W (tFor wi g ts) (sFor ai ag as) := ⟨fun F0 H0 F1 H1 De Da σ env F H ok b m k h =>
  (hi H0).run σ env F H _ _ b.ex.ok m h fun ds Fa Ha J p1 x1 itk => by
  have b1 := b.step ok x1
  have m1 := m.ext b.ex.ok x1
  refine ⟨fun i n σ' H' => n + i = ds.length ∧ ∃ env' F', Bse W F0 H0 F1 H1 F' H' ∧ Sub Fa Ha F' H' ∧ Mt W H0 F' H' σ' env' ∧ forA ag as Da (ds.drop i) env', ⟨ds.length, rfl, env, Fa, b1, Sub.refl Fa Ha, m1, p1⟩, ?_⟩
  rintro i n σ2 H2 ⟨hn, env2, F2, b2, s2, m2, p2⟩
  by_cases hlt : i < ds.length
  · have hd : ds[i]? = some ds[i] := List.getElem?_eq_getElem hlt
    obtain ⟨go, yl⟩ := itk.it F2 H2 b2.ex.ok s2 i _ hd
    rw [List.drop_eq_getElem_cons hlt] at p2
    refine .inr ⟨go, fun σ' H' => ∃ env' F', Bse W F0 H0 F1 H1 F' H' ∧ Sub Fa Ha F' H' ∧ Mt W H0 F' H' σ' env' ∧ forA ag as Da (ds.drop (i + 1)) env',
      fun σ' H' ⟨env', F', rest⟩ => ⟨n - 1, by omega, by omega, env', F', rest⟩, fun x H3 y => ?_⟩
    obtain ⟨F3, x3, rx⟩ := yl x H3 y
    have b3 := b2.step ok x3
    have m3 := m2.ext b2.ex.ok x3
    have s3 := s2.trans (x3.sub b2.ex.ok)
    refine (hg H0).run x _ σ2 env2 F3 H3 _ _ x3.ok m3 rx p2 fun env4 σ4 p4 m4 _ => ?_
    exact hb.run F0 H0 F3 H3 _ { Da with nx := forA ag as Da (ds.drop (i + 1)), ct := forA ag as Da (ds.drop (i + 1)), bk := Da.nx } σ4 env4 F3 H3 ok ⟨b3.ex, Sub.refl _ _⟩ m4
      ⟨fun σ env F H b m h => ⟨env, F, ⟨b.ex, b3.sb.trans b.sb⟩, s3.trans b.sb, m, h⟩, fun v d F H b => k.rt v d F H ⟨b.ex, b3.sb.trans b.sb⟩, fun σ env F H b => k.nx σ env F H ⟨b.ex, b3.sb.trans b.sb⟩,
        fun σ env F H b m h => ⟨env, F, ⟨b.ex, b3.sb.trans b.sb⟩, s3.trans b.sb, m, h⟩⟩ p4
  · have e : i = ds.length := by omega
    subst e
    rw [List.drop_length] at p2
    exact .inl ⟨itk.done F2 H2 b2.ex.ok s2, k.nx σ2 env2 F2 H2 b2 m2 p2⟩⟩
end
theorem mt_start {W : Wd} {F : Addr → Prop} {H : Hp} : ∀ {N : List Str} {vs : List V} {ds : List Dat}, RvAll W F H vs ds → ds.length ≤ N.length → Mt W H F H (L2.start N vs) (ds.map Sl.d ++ List.replicate (N.length - ds.length) .u) := fun {N vs ds} r hl => by
  have lv := r.length
  unfold L2.start
  rw [lv]
  refine ⟨by simp [lv], fun j s e => ?_, fun j k us ws a e1 => ?_⟩
  · by_cases h : j < ds.length
    · rw [List.getElem?_append_left (by rw [List.length_map]; exact h), List.getElem?_map] at e
      rw [List.getElem?_append_left (by rw [List.length_map]; omega), List.getElem?_map]
      cases q : ds[j]? with
      | none =>
        rw [q] at e
        cases e
      | some d =>
        rw [q] at e
        cases e
        obtain ⟨v, e1, rv⟩ := r.get q
        rw [e1]
        exact ⟨_, rfl, v, rfl, rv⟩
    · rw [List.getElem?_append_right (by rw [List.length_map]; omega), List.length_map] at e
      rw [List.getElem?_append_right (by rw [List.length_map]; omega), List.length_map, lv]
      obtain ⟨hb, e⟩ := List.getElem?_eq_some_iff.mp e
      rw [List.getElem_replicate] at e
      rw [List.length_replicate] at hb
      subst e
      exact ⟨none, by rw [List.getElem?_eq_getElem (by rw [List.length_replicate]; exact hb), List.getElem_replicate], trivial⟩
  · exfalso
    have hm := List.mem_of_getElem? e1
    rcases List.mem_append.mp hm with h | h
    · obtain ⟨_, _, z⟩ := List.mem_map.mp h
      cases z
    · have := (List.mem_replicate.mp h).2
      cases this
theorem sp_len {K : PySem.W.Frag} {ca : Nat → Addr} {asp : ASp} {n : Nat} (hn : ∀ ds P, asp ds P → ds.length = n) {vs : List V} {H : Hp} {Q : VK} {E : XK} (h : toSp K ca asp vs H Q E) : vs.length = n := by
  obtain ⟨po, F, ds, P, ok, r, a, k⟩ := h
  rw [r.length]
  exact hn ds P a
theorem fn_run {K : PySem.W.Frag} {ca : Nat → Addr} {asp : ASp} {N : List Str} {vs : List V} {H : Hp} {Q : VK} {E : XK} {ts : TS} {as : ASt} (h : toSp K ca asp vs H Q E) (hs : ∀ po, AStm ⟨K, ca, po⟩ ts as) (hl : ∀ ds P, asp ds P → ds.length ≤ N.length)
    (hb : ∀ ds P, asp ds P → as { nx := fun _ => P .non, rt := P } (ds.map Sl.d ++ List.replicate (N.length - ds.length) .u)) : ts { nx := fun _ H' => Q .non H', rt := Q } (L2.start N vs) H := by
  obtain ⟨po, F, ds, P, ok, r, a, k⟩ := h
  exact (hs po).run F H F H _ { nx := fun _ => P .non, rt := P } _ _ F H ok ⟨.refl ok, Sub.refl F H⟩ (mt_start r (hl ds P a))
    ⟨fun σ env F' H' b m p => k .non F' H' .non p b.ex .non, fun v d F' H' b r p => k d F' H' v p b.ex r, fun _ _ _ _ _ _ p => p.elim, fun _ _ _ _ _ _ p => p.elim⟩ (hb ds P a)
/-- a call with one argument, as f on data -/
def UOk (W : Wd) (S : Rel) (r : List V → Hp → VK → Prop) (f : Dat → (Dat → Prop) → Prop) : Prop :=
  ∀ (F : Addr → Prop) (H : Hp) (x : V) (d : Dat) (Q : VK) (P : Dat → Prop), Okk W F H → S W F H x d → f d P → (∀ z F' H' v, P z → Ext W F H F' H' → Rv W F' H' v z → Q v H') → r [x] H Q
/-- .. that makes a list -/
def UFr (W : Wd) (S : Rel) (r : List V → Hp → VK → Prop) (f : Dat → (List Dat → Prop) → Prop) : Prop :=
  ∀ (F : Addr → Prop) (H : Hp) (x : V) (d : Dat) (Q : VK) (P : List Dat → Prop), Okk W F H → S W F H x d → f d P →
    (∀ ds F' H' a vs, P ds → Ext W F H F' H' → H a = none → ¬ F' a → H' a = some (.lst vs) → RvAll W F' H' vs ds → Q (.ref a) H') → r [x] H Q
def a1F (f : Dat → (List Dat → Prop) → Prop) (ea : AEx) : AFr := fun env P => ea env fun x => f x P
/-- the items of a list or a tuple -/
def sQ : Dat → (List Dat → Prop) → Prop
  | .lst xs, P => P xs
  | .tup xs, P => P xs
  | _, _ => False
theorem Pk.seq {W : Wd} {F : Addr → Prop} {H : Hp} {v : V} {d : Dat} {P : List Dat → Prop} (k : Okk W F H) (r : Pk W F H v d) (q : sQ d P) : ∃ a vs xs, v = .ref a ∧ (SqL W.K H a vs ∨ SqT W.K H a vs) ∧ RvAll W F H vs xs ∧ P xs ∧ (d = .lst xs ∧ SqL W.K H a vs ∨ d = .tup xs ∧ SqT W.K H a vs) := by
  cases d with
  | lst xs =>
    obtain ⟨a, vs, rfl, h, _, rr⟩ := r.lst k
    exact ⟨a, vs, xs, rfl, .inl (SqL.of h), rr, q, .inl ⟨rfl, SqL.of h⟩⟩
  | tup xs =>
    cases r with
    | rv r =>
      cases r with
      | tup h rr => exact ⟨_, _, xs, rfl, .inr h.sq, rr, q, .inr ⟨rfl, h.sq⟩⟩
  | _ => exact q.elim
section
variable {W : Wd} {H0 : Hp} {te ta tb : TE} {ae ea eb : AEx} {S : Rel}
theorem a_b1 {r : List V → Hp → VK → Prop} {f : Dat → (Dat → Prop) → Prop} (hr : UOk W S r f) (ha : AEg S W H0 te ea) : AExp W H0 (tCB r (tCons te tNil)) (a1 f ea) :=
  ⟨fun σ env F H Q P ok m q k => ha.run σ env F H _ _ ok m q fun d F1 H1 v p1 x1 r1 => hr F1 H1 v d Q P x1.ok r1 p1 fun z F2 H2 w p2 x2 r2 => k z F2 H2 w p2 (x1.trans ok x2) r2⟩
theorem a_b1F {r : List V → Hp → VK → Prop} {f : Dat → (List Dat → Prop) → Prop} (hr : UFr W S r f) (ha : AEg S W H0 te ea) : AFrs W H0 (tCB r (tCons te tNil)) (a1F f ea) :=
  ⟨fun σ env F H Q P ok m q k => ha.run σ env F H _ _ ok m q fun d F1 H1 v p1 x1 r1 => hr F1 H1 v d Q P x1.ok r1 p1 fun ds F2 H2 a vs p2 x2 n nf h r => k ds F2 H2 a vs p2 (x1.trans ok x2) (x1.there ok n) nf h r⟩
/-- two arguments -/
theorem a_b2 {r : List V → Hp → VK → Prop} {f : Dat → Dat → (Dat → Prop) → Prop} (hr : ROk W Rv Rv Rv (fun x y H Q => r [x, y] H Q) f) (ha : AExp W H0 ta ea) (hb : AExp W H0 tb eb) : AExp W H0 (tCB r (tCons ta (tCons tb tNil))) (a2 f ea eb) :=
  ⟨fun σ env F H Q P ok m q k => ha.run σ env F H _ _ ok m q fun d F1 H1 v p1 x1 r1 => hb.run σ env F1 H1 _ _ x1.ok (m.ext ok x1) p1 fun e F2 H2 u p2 x2 r2 =>
    hr F2 H2 v u d e Q P x2.ok (r1.sub (x2.sub x1.ok)) r2 p2 fun z F3 H3 w p3 x3 r3 => k z F3 H3 w p3 ((x1.trans ok x2).trans ok x3) r3⟩
def kLen : Dat → (Dat → Prop) → Prop := fun d P => sQ d fun xs => P (.int (xs.length : Nat))
theorem u_len : UOk W Pk (rLen W.K) kLen := fun F H x d Q P ok r q k => by
  obtain ⟨a, vs, xs, rfl, h, rr, p, _⟩ := r.seq ok q
  exact ⟨a, vs, rfl, h, by rw [rr.length]; exact k _ F H _ p (.refl ok) (.int _)⟩
theorem u_listOf : UFr W Pk (rListOf W.K) sQ := fun F H x d Q P ok r q k => by
  obtain ⟨a, vs, xs, rfl, h, rr, p, _⟩ := r.seq ok q
  refine ⟨a, vs, rfl, h, fun l n => ?_⟩
  have x2 : Ext W F H F (upd H l (.lst vs)) := Ext.lay ok n
  exact k xs F _ l vs p x2 n (fun f => ok.tr l f n) upd_same (rr.sub (x2.sub ok))
def kTupOf : Dat → (Dat → Prop) → Prop := fun d P => sQ d fun xs => P (.tup xs)
theorem u_tupOf : UOk W Pk (rTupF W.K) kTupOf := fun F H x d Q P ok r q k => by
  cases d with
  | lst xs =>
    obtain ⟨a, vs, rfl, h, _, rr⟩ := r.lst ok
    refine ⟨a, vs, rfl, .inl ⟨SqL.of h, fun l o n tp => ?_⟩⟩
    have x2 : Ext W F H (fun b => F b ∨ b = l) (upd H l o) := Ext.new ok n
    exact k (.tup xs) _ _ _ q x2 (.tup ⟨.inr rfl, o, upd_same, tp⟩ (rr.sub (x2.sub ok)))
  | tup xs =>
    cases r with
    | rv r =>
      cases r with
      | tup h rr => exact ⟨_, _, rfl, .inr ⟨h.sq, k (.tup xs) F H _ q (.refl ok) (.tup h rr)⟩⟩
  | _ => exact q.elim
def kAll : Dat → (Dat → Prop) → Prop
  | .lst xs, P => ∃ bs : List Bool, xs = bs.map Dat.bl ∧ P (.bl (bs.all id))
  | _, _ => False
theorem u_all : UOk W Pk (rAll W.K) kAll := fun F H x d Q P ok r q k => by
  cases d with
  | lst xs =>
    obtain ⟨a, vs, rfl, h, _, rr⟩ := r.lst ok
    obtain ⟨ns, rfl, q⟩ := q
    have e := rr.bls
    subst e
    exact ⟨a, ns, rfl, SqL.of h, k _ F H _ q (.refl ok) (.bl _)⟩
  | _ => exact q.elim
def kInt : Dat → (Dat → Prop) → Prop
  | .int i, P => P (.int i)
  | .bl b, P => P (.int (if b then 1 else 0))
  | _, _ => False
theorem u_int : UOk W Rv (fun xs H Q => (∃ i, xs = [.int i] ∧ Q (.int i) H) ∨ ∃ k, xs = [.bl k] ∧ Q (.int (if k = true then 1 else 0)) H) kInt := fun F H x d Q P ok r q k => by
  cases r with
  | int i => exact .inl ⟨i, rfl, k _ F H _ q (.refl ok) (.int _)⟩
  | bl b => exact .inr ⟨b, rfl, k _ F H _ q (.refl ok) (.int _)⟩
  | _ => exact q.elim
def kStr : Dat → (Dat → Prop) → Prop
  | .int i, P => i.natAbs < 1000000 ∧ P (.str (toString i))
  | _, _ => False
theorem log_small {n : Nat} (h : n < 1000000) : n.log2 < 1920 := by
  by_cases z : n = 0
  · subst z
    decide
  · exact (Nat.log2_lt z).mpr (Nat.lt_trans h (Nat.lt_of_lt_of_le (show 1000000 < 2 ^ 20 by decide) (Nat.pow_le_pow_right (by decide) (by decide))))
theorem u_str : UOk W Rv (fun xs H Q => ∃ i, xs = [.int i] ∧ i.natAbs.log2 < 1920 ∧ Q (.str (toString i)) H) kStr := fun F H x d Q P ok r q k => by
  cases r with
  | int i => exact ⟨i, rfl, log_small q.1, k _ F H _ q.2 (.refl ok) (.str _)⟩
  | _ => exact q.elim
def kMax2 : Dat → Dat → (Dat → Prop) → Prop
  | .int i, .int j, P => P (.int (if j > i then j else i))
  | _, _, _ => False
def kCatS : Dat → Dat → (Dat → Prop) → Prop
  | .str i, .str j, P => i.length + j.length ≤ 100000 ∧ P (.str (i ++ j))
  | _, _, _ => False
theorem rok_catS : ROk W Rv Rv Rv (fun x y H Q => ∃ i j, x = .str i ∧ y = .str j ∧ i.length + j.length ≤ sizeLine ∧ Q (.str (i ++ j)) H) kCatS := fun F H x y d e Q P ok r1 r2 q k => by
  cases r1 <;> cases r2 <;> first | exact q.elim | exact ⟨_, _, rfl, rfl, Nat.le_of_lt (len_size q.1), k _ F H _ q.2 (.refl ok) (.str _)⟩
def kCatT : Dat → Dat → (Dat → Prop) → Prop
  | .tup xs, .tup ys, P => xs.length + ys.length ≤ 100000 ∧ P (.tup (xs ++ ys))
  | _, _, _ => False
theorem rok_catT : ROk W Rv Rv Rv (rCatF W.K) kCatT := fun F H x y d e Q P ok r1 r2 q k => by
  cases r1 with
  | @tup a1 v1 d1 h1 s1 =>
    cases r2 with
    | @tup a2 v2 d2 h2 s2 =>
      obtain ⟨sz, q⟩ := q
      refine ⟨_, _, _, _, rfl, rfl, h1.sq, h2.sq, Nat.le_of_lt (len_size (by rw [s1.length, s2.length]; exact sz)), fun e => ?_, fun _ e => ?_, fun _ _ a o n tp => ?_⟩
      · subst e
        cases s1
        exact k _ F H _ q (.refl ok) (.tup h2 s2)
      · subst e
        cases s2
        rw [List.append_nil] at q
        exact k _ F H _ q (.refl ok) (.tup h1 s1)
      · have x2 : Ext W F H (fun b => F b ∨ b = a) (upd H a o) := Ext.new ok n
        exact k _ _ _ _ q x2 (.tup ⟨.inr rfl, o, upd_same, tp⟩ ((s1.append s2).sub (x2.sub ok)))
    | _ => exact q.elim
  | _ => exact q.elim
/-- an operation that makes a list -/
def RFr (W : Wd) (S1 S2 : Rel) (r : L2.R2) (f : Dat → Dat → (List Dat → Prop) → Prop) : Prop :=
  ∀ (F : Addr → Prop) (H : Hp) (x y : V) (d e : Dat) (Q : VK) (P : List Dat → Prop), Okk W F H → S1 W F H x d → S2 W F H y e → f d e P →
    (∀ ds F' H' a vs, P ds → Ext W F H F' H' → H a = none → ¬ F' a → H' a = some (.lst vs) → RvAll W F' H' vs ds → Q (.ref a) H') → r x y H Q
def a2F (f : Dat → Dat → (List Dat → Prop) → Prop) (ea eb : AEx) : AFr := fun env P => ea env fun x => eb env fun y => f x y P
theorem a_opF {S1 S2 : Rel} {r : L2.R2} {f : Dat → Dat → (List Dat → Prop) → Prop} (pr : Pst S1) (hr : RFr W S1 S2 r f) (ha : AEg S1 W H0 ta ea) (hb : AEg S2 W H0 tb eb) : AFrs W H0 (tOp r ta tb) (a2F f ea eb) :=
  ⟨fun σ env F H Q P ok m q k => ha.run σ env F H _ _ ok m q fun d F1 H1 v p1 x1 r1 => hb.run σ env F1 H1 _ _ x1.ok (m.ext ok x1) p1 fun e F2 H2 u p2 x2 r2 =>
    hr F2 H2 v u d e Q P x2.ok (pr.run x1.ok x2 r1) r2 p2 fun ds F3 H3 a vs p3 x3 n nf h r => k ds F3 H3 a vs p3 ((x1.trans ok x2).trans ok x3) ((x1.trans ok x2).there ok n) nf h r⟩
def kCatL : Dat → Dat → (List Dat → Prop) → Prop
  | .lst xs, .lst ys, P => xs.length + ys.length ≤ 100000 ∧ P (xs ++ ys)
  | _, _, _ => False
theorem rok_catL : RFr W Pk Pk rCat kCatL := fun F H x y d e Q P ok r1 r2 q k => by
  cases d with
  | lst xs =>
    cases e with
    | lst ys =>
      obtain ⟨a, vs, rfl, h1, _, s1⟩ := r1.lst ok
      obtain ⟨b, ws, rfl, h2, _, s2⟩ := r2.lst ok
      refine ⟨a, b, vs, ws, rfl, rfl, h1, h2, Nat.le_of_lt (len_size (by rw [s1.length, s2.length]; exact q.1)), fun l n => ?_⟩
      have x2 : Ext W F H F (upd H l (.lst (vs ++ ws))) := Ext.lay ok n
      exact k _ F _ l _ q.2 x2 n (fun f => ok.tr l f n) upd_same ((s1.append s2).sub (x2.sub ok))
    | _ => exact q.elim
  | _ => exact q.elim
abbrev AOp := List Sl → (Option Int → Prop) → Prop
structure AOpt (W : Wd) (H0 : Hp) (t : TO) (ao : AOp) : Prop where
  run : ∀ (σ : L2.St) (env : List Sl) (F : Addr → Prop) (H : Hp) (Q : Option Int → Hp → Prop) (P : Option Int → Prop), Okk W F H → Mt W H0 F H σ env → ao env P → (∀ o F' H', P o → Ext W F H F' H' → Q o H') → t σ H Q
def aoN : AOp := fun _ P => P none
def aoS (ea : AEx) : AOp := fun env P => ea env fun x => match x with
  | .int i => P (some i)
  | _ => False
theorem ao_none : AOpt W H0 tNoPart aoN := ⟨fun σ env F H Q P ok m q k => k none F H q (.refl ok)⟩
theorem ao_some (h : AExp W H0 te ea) : AOpt W H0 (tPart te) (aoS ea) := ⟨fun σ env F H Q P ok m q k => h.run σ env F H _ _ ok m q fun d F1 H1 v p1 x1 r1 => by
  cases r1 with
  | int i => exact ⟨i, rfl, k _ F1 H1 p1 x1⟩
  | _ => exact p1.elim⟩
def cutD (xs : List Dat) (lo hi : Option Int) : List Dat := (xs.drop (HT.sIx xs.length 0 lo)).take (HT.sIx xs.length xs.length hi - HT.sIx xs.length 0 lo)
theorem RvAll.cut {F : Addr → Prop} {H : Hp} {vs : List V} {xs : List Dat} (r : RvAll W F H vs xs) (lo hi : Option Int) : RvAll W F H (cutV vs lo hi) (cutD xs lo hi) := by
  unfold cutV cutD
  rw [r.length]
  exact (r.drop _).take _
theorem cutD_all (xs : List Dat) (lo hi : Option Int) (h1 : HT.sIx xs.length 0 lo = 0) (h2 : HT.sIx xs.length xs.length hi = xs.length) : cutD xs lo hi = xs := by
  unfold cutD
  rw [h1, h2]
  simp
def aSlF (ea : AEx) (al ah : AOp) : AFr := fun env P => ea env fun x => al env fun lo => ah env fun hi => lQ x fun xs => P (cutD xs lo hi)
def aSlT (ea : AEx) (al ah : AOp) : AEx := fun env P => ea env fun x => al env fun lo => ah env fun hi => tQ x fun xs => P (.tup (cutD xs lo hi))
theorem a_slL {tl th : TO} {al ah : AOp} (ha : AEg Pk W H0 te ea) (hl : AOpt W H0 tl al) (hh : AOpt W H0 th ah) : AFrs W H0 (tSl (rSlL W.K) te tl th) (aSlF ea al ah) :=
  ⟨fun σ env F H Q P ok m q k => ha.run σ env F H _ _ ok m q fun d F1 H1 v p1 x1 r1 => hl.run σ env F1 H1 _ _ x1.ok (m.ext ok x1) p1 fun lo F2 H2 p2 x2 => hh.run σ env F2 H2 _ _ x2.ok (m.ext ok (x1.trans ok x2)) p2 fun hi F3 H3 p3 x3 => by
    have r3 := pst_pk.run x2.ok x3 (pst_pk.run x1.ok x2 r1)
    cases d with
    | lst xs =>
      obtain ⟨a, vs, rfl, h, _, rr⟩ := r3.lst x3.ok
      refine ⟨a, vs, rfl, SqL.of h, fun l n => ?_⟩
      have x4 : Ext W F3 H3 F3 (upd H3 l (.lst (cutV vs lo hi))) := Ext.lay x3.ok n
      have x13 := (x1.trans ok x2).trans ok x3
      exact k _ F3 _ l _ p3 (x13.trans ok x4) (x13.there ok n) (fun f => x3.ok.tr l f n) upd_same ((rr.cut lo hi).sub (x4.sub x3.ok))
    | _ => exact p3.elim⟩
theorem a_slT {tl th : TO} {al ah : AOp} (ha : AExp W H0 te ea) (hl : AOpt W H0 tl al) (hh : AOpt W H0 th ah) : AExp W H0 (tSl (rSlF W.K) te tl th) (aSlT ea al ah) :=
  ⟨fun σ env F H Q P ok m q k => ha.run σ env F H _ _ ok m q fun d F1 H1 v p1 x1 r1 => hl.run σ env F1 H1 _ _ x1.ok (m.ext ok x1) p1 fun lo F2 H2 p2 x2 => hh.run σ env F2 H2 _ _ x2.ok (m.ext ok (x1.trans ok x2)) p2 fun hi F3 H3 p3 x3 => by
    have r3 := (r1.sub (x2.sub x1.ok)).sub (x3.sub x2.ok)
    have x13 := (x1.trans ok x2).trans ok x3
    cases r3 with
    | @tup a vs xs h rr =>
      refine ⟨a, vs, rfl, h.sq, fun ⟨h1, h2⟩ => ?_, fun _ l o n tp => ?_⟩
      · rw [rr.length] at h1 h2
        have p3 : P (.tup (cutD xs lo hi)) := p3
        rw [cutD_all xs lo hi h1 h2] at p3
        exact k _ F3 H3 _ p3 x13 (.tup h rr)
      · have x4 : Ext W F3 H3 (fun b => F3 b ∨ b = l) (upd H3 l o) := Ext.new x3.ok n
        exact k _ _ _ _ p3 (x13.trans ok x4) (.tup ⟨.inr rfl, o, upd_same, tp⟩ ((rr.cut lo hi).sub (x4.sub x3.ok)))
    | _ => exact p3.elim⟩
end
/-- pairs, as far as both go -/
def zipD : List Dat → List Dat → List Dat
  | x :: xs, y :: ys => .tup [x, y] :: zipD xs ys
  | _, _ => []
def enumD : Nat → List Dat → List Dat
  | _, [] => []
  | n, x :: xs => .tup [.int (n : Nat), x] :: enumD (n + 1) xs
def iZipA (k1 k2 : Bool) (aa : AFr) : AFr := fun env P => aa env fun ds => match ds with
  | [x, y] => kQ k1 x fun xs => kQ k2 y fun ys => P (zipD xs ys)
  | _ => False
def iEnA (k : Bool) (aa : AFr) : AFr := fun env P => aa env fun ds => match ds with
  | [x] => kQ k x fun xs => P (enumD 0 xs)
  | _ => False
section
variable {W : Wd} {H0 : Hp} {te ta tb : TE} {ae ea eb : AEx}
theorem i_K {k : Bool} (ha : AExp W H0 ta ea) : AIter W H0 (iK k W.K ta) (iSeq (kQ k) ea) := ⟨fun σ env F H R P ok m q kk => ha.run σ env F H _ _ ok m q fun d F1 H1 v p1 x1 r1 => by
  cases k with
  | true =>
    cases r1 with
    | tup h r => exact ⟨_, rfl, ⟨_, h.sq⟩, kk _ F1 H1 _ p1 x1 (it_tup h r)⟩
    | _ => exact (show False from p1).elim
  | false =>
    cases r1 with
    | lst f h r => exact ⟨_, rfl, ⟨_, SqL.of h⟩, kk _ F1 H1 _ p1 x1 (it_list f h r)⟩
    | _ => exact (show False from p1).elim⟩
end
def flatD : Dat → Bool
  | .int _ => true
  | .str _ => true
  | _ => false
/-- x in xs: ints and texts -/
def kIn (n : Bool) : Dat → Dat → (Dat → Prop) → Prop := fun x y P => flatD x = true ∧ sQ y fun xs => xs.all flatD = true ∧ ∀ b : Bool, (b = true ↔ x ∈ xs) → P (.bl (if n then !b else b))
theorem flat_v {W : Wd} {F : Addr → Prop} {H : Hp} {v : V} {d : Dat} (r : Rv W F H v d) (f : flatD d = true) : flatV v = true := by
  cases r <;> first | rfl | cases f
theorem flat_vs {W : Wd} {F : Addr → Prop} {H : Hp} : ∀ {vs : List V} {ds : List Dat}, RvAll W F H vs ds → ds.all flatD = true → vs.all flatV = true
  | _, _, .nil, _ => rfl
  | _, _, .cons a r, f => by
    rw [List.all_cons, Bool.and_eq_true] at f ⊢
    exact ⟨flat_v a f.1, flat_vs r f.2⟩
theorem eqV_flat {W : Wd} {F : Addr → Prop} {H : Hp} {v w : V} {d e : Dat} (r : Rv W F H v d) (s : Rv W F H w e) (f : flatD d = true) (g : flatD e = true) : eqV w v = true ↔ e = d := by
  cases r with
  | int i =>
    cases s with
    | int j =>
      show (j == i) = true ↔ _
      rw [beq_iff_eq]
      exact ⟨fun h => by rw [h], fun h => Dat.int.inj h⟩
    | str y => exact ⟨fun h => (by cases h), fun h => (by cases h)⟩
    | _ => cases g
  | str x =>
    cases s with
    | int j => exact ⟨fun h => (by cases h), fun h => (by cases h)⟩
    | str y =>
      show (y == x) = true ↔ _
      rw [beq_iff_eq]
      exact ⟨fun h => by rw [h], fun h => Dat.str.inj h⟩
    | _ => cases g
  | _ => cases f
theorem inV_mem {W : Wd} {F : Addr → Prop} {H : Hp} {v : V} {d : Dat} (r : Rv W F H v d) (f : flatD d = true) : ∀ {vs : List V} {ds : List Dat}, RvAll W F H vs ds → ds.all flatD = true → (inV v vs = true ↔ d ∈ ds)
  | _, _, .nil, _ => ⟨fun h => (by cases h), fun h => (by cases h)⟩
  | _, _, .cons (v := u) (d := e) a s, g => by
    rw [List.all_cons, Bool.and_eq_true] at g
    have ih := inV_mem r f s g.2
    have he := eqV_flat r a f g.1
    unfold inV at ih ⊢
    rw [List.any_cons, Bool.or_eq_true, ih, he, List.mem_cons]
    exact ⟨fun h => h.imp (fun z => z.symm) id, fun h => h.imp (fun z => z.symm) id⟩
theorem rok_in {W : Wd} {n : Bool} : ROk W Rv Pk Rv (rIn W.K n) (kIn n) := fun F H x y d e Q P ok r1 r2 q k => by
  obtain ⟨f, q⟩ := q
  obtain ⟨a, vs, xs, rfl, h, rr, ⟨g, q⟩, _⟩ := r2.seq ok q
  refine ⟨a, vs, rfl, h, flat_v r1 f, flat_vs rr g, ?_⟩
  have := q (inV x vs) (inV_mem r1 f rr g)
  cases n with
  | true => exact k _ F H _ this (.refl ok) (.bl _)
  | false => exact k _ F H _ this (.refl ok) (.bl _)
mutual
def pyD : Dat → PyData
  | .int i => .int i
  | .str x => .str x
  | .lst xs => .list (pyAll xs)
  | .tup xs => .tuple (pyAll xs)
  | _ => .none
def pyAll : List Dat → List PyData
  | [] => []
  | x :: xs => pyD x :: pyAll xs
end
mutual
def layD : Dat → Bool
  | .int _ => true
  | .str x => PyData.strOk x
  | .lst xs => layAll xs
  | .tup xs => layAll xs
  | .non => true
  | _ => false
def layAll : List Dat → Bool
  | [] => true
  | x :: xs => layD x && layAll xs
end
def okE (n : Nat) (d : Dat) : Prop := layD d = true ∧ PyData.depth (pyD d) ≤ n
mutual
theorem lay_can : ∀ d : Dat, layD d = true → PyData.canLay0 (pyD d) = true
  | .non, _ => rfl
  | .int _, _ => rfl
  | .str _, h => h
  | .lst xs, h => by
    show PyData.canLayAll0 (pyAll xs) = true
    exact layAll_can xs h
  | .tup xs, h => by
    show PyData.canLayAll0 (pyAll xs) = true
    exact layAll_can xs h
  | .bl _, h => by cases h
  | .pool, h => by cases h
  | .obj _ _, h => by cases h
  | .dK _, h => by cases h
  | .dT _ _, h => by cases h
  | .rng _ _, h => by cases h
theorem layAll_can : ∀ xs : List Dat, layAll xs = true → PyData.canLayAll0 (pyAll xs) = true
  | [], _ => rfl
  | x :: xs, h => by
    have h : (layD x && layAll xs) = true := h
    rw [Bool.and_eq_true] at h
    show (PyData.canLay0 (pyD x) && PyData.canLayAll0 (pyAll xs)) = true
    rw [lay_can x h.1, layAll_can xs h.2]
    rfl
end
mutual
theorem lay_dp {W : Wd} {F : Addr → Prop} {H : Hp} : ∀ {v : V} {d : Dat}, Rv W F H v d → layD d = true → Dp W.K H v (pyD d)
  | _, _, .non, _ => .non
  | _, _, .int i, _ => .int i
  | _, _, .str x, _ => .str x
  | _, _, .lst f h r, q => .lst (SqL.of h) (layAll_dp r q)
  | _, _, .tup h r, q => .tup h.sq (layAll_dp r q)
  | _, _, .bl _, q => by cases q
  | _, _, .pool _, q => by cases q
  | _, _, .obj _ _ _ _, q => by cases q
  | _, _, .dK _ _ _, q => by cases q
  | _, _, .dT _ _ _ _ _ _, q => by cases q
  | _, _, .rng _ _, q => by cases q
theorem layAll_dp {W : Wd} {F : Addr → Prop} {H : Hp} : ∀ {vs : List V} {ds : List Dat}, RvAll W F H vs ds → layAll ds = true → DpAll W.K H vs (pyAll ds)
  | _, _, .nil, _ => .nil
  | _, _, .cons a r, q => by
    have q : (_ && _) = true := q
    rw [Bool.and_eq_true] at q
    exact .cons (lay_dp a q.1) (layAll_dp r q.2)
end
mutual
theorem lay_eqv : ∀ d e : Dat, layD d = true → layD e = true → (PyData.eqv (pyD d) (pyD e) = true ↔ d = e)
  | .int i, .int j, _, _ => by
    show (i == j) = true ↔ _
    rw [beq_iff_eq]
    exact ⟨fun e => by rw [e], fun e => Dat.int.inj e⟩
  | .str i, .str j, _, _ => by
    show (i == j) = true ↔ _
    rw [beq_iff_eq]
    exact ⟨fun e => by rw [e], fun e => Dat.str.inj e⟩
  | .lst xs, .lst ys, h1, h2 => by
    show PyData.eqvAll (pyAll xs) (pyAll ys) = true ↔ _
    rw [layAll_eqv xs ys h1 h2]
    exact ⟨fun e => by rw [e], fun e => Dat.lst.inj e⟩
  | .tup xs, .tup ys, h1, h2 => by
    show PyData.eqvAll (pyAll xs) (pyAll ys) = true ↔ _
    rw [layAll_eqv xs ys h1 h2]
    exact ⟨fun e => by rw [e], fun e => Dat.tup.inj e⟩
  | .non, .non, _, _ => ⟨fun _ => rfl, fun _ => rfl⟩
  | .non, .int _, _, _ => ⟨fun h => (by cases h), fun h => (by cases h)⟩
  | .non, .str _, _, _ => ⟨fun h => (by cases h), fun h => (by cases h)⟩
  | .non, .lst _, _, _ => ⟨fun h => (by cases h), fun h => (by cases h)⟩
  | .non, .tup _, _, _ => ⟨fun h => (by cases h), fun h => (by cases h)⟩
  | .int _, .non, _, _ => ⟨fun h => (by cases h), fun h => (by cases h)⟩
  | .int _, .str _, _, _ => ⟨fun h => (by cases h), fun h => (by cases h)⟩
  | .int _, .lst _, _, _ => ⟨fun h => (by cases h), fun h => (by cases h)⟩
  | .int _, .tup _, _, _ => ⟨fun h => (by cases h), fun h => (by cases h)⟩
  | .str _, .non, _, _ => ⟨fun h => (by cases h), fun h => (by cases h)⟩
  | .str _, .int _, _, _ => ⟨fun h => (by cases h), fun h => (by cases h)⟩
  | .str _, .lst _, _, _ => ⟨fun h => (by cases h), fun h => (by cases h)⟩
  | .str _, .tup _, _, _ => ⟨fun h => (by cases h), fun h => (by cases h)⟩
  | .lst _, .non, _, _ => ⟨fun h => (by cases h), fun h => (by cases h)⟩
  | .lst _, .int _, _, _ => ⟨fun h => (by cases h), fun h => (by cases h)⟩
  | .lst _, .str _, _, _ => ⟨fun h => (by cases h), fun h => (by cases h)⟩
  | .lst _, .tup _, _, _ => ⟨fun h => (by cases h), fun h => (by cases h)⟩
  | .tup _, .non, _, _ => ⟨fun h => (by cases h), fun h => (by cases h)⟩
  | .tup _, .int _, _, _ => ⟨fun h => (by cases h), fun h => (by cases h)⟩
  | .tup _, .str _, _, _ => ⟨fun h => (by cases h), fun h => (by cases h)⟩
  | .tup _, .lst _, _, _ => ⟨fun h => (by cases h), fun h => (by cases h)⟩
  | .bl _, _, h, _ => by cases h
  | .pool, _, h, _ => by cases h
  | .obj _ _, _, h, _ => by cases h
  | .dK _, _, h, _ => by cases h
  | .dT _ _, _, h, _ => by cases h
  | .rng _ _, _, h, _ => by cases h
  | _, .bl _, _, h => by cases h
  | _, .pool, _, h => by cases h
  | _, .obj _ _, _, h => by cases h
  | _, .dK _, _, h => by cases h
  | _, .dT _ _, _, h => by cases h
  | _, .rng _ _, _, h => by cases h
theorem layAll_eqv : ∀ xs ys : List Dat, layAll xs = true → layAll ys = true → (PyData.eqvAll (pyAll xs) (pyAll ys) = true ↔ xs = ys)
  | [], [], _, _ => ⟨fun _ => rfl, fun _ => rfl⟩
  | [], _ :: _, _, _ => ⟨fun h => (by cases h), fun h => (by cases h)⟩
  | _ :: _, [], _, _ => ⟨fun h => (by cases h), fun h => (by cases h)⟩
  | x :: xs, y :: ys, h1, h2 => by
    have h1 : (layD x && layAll xs) = true := h1
    have h2 : (layD y && layAll ys) = true := h2
    rw [Bool.and_eq_true] at h1 h2
    show (PyData.eqv (pyD x) (pyD y) && PyData.eqvAll (pyAll xs) (pyAll ys)) = true ↔ _
    rw [Bool.and_eq_true, lay_eqv x y h1.1 h2.1, layAll_eqv xs ys h1.2 h2.2, List.cons.injEq]
end
theorem okE_sh {d : Dat} (h : okE 64 d) : SeqAt.shaped (pyD d) = true := by
  unfold SeqAt.shaped
  rw [lay_can d h.1, decide_eq_true h.2]
  rfl
theorem layAll_of : ∀ {xs : List Dat}, (∀ x ∈ xs, layD x = true) → layAll xs = true
  | [], _ => rfl
  | x :: xs, h => by
    show (layD x && layAll xs) = true
    rw [h x List.mem_cons_self, layAll_of fun y hy => h y (List.mem_cons_of_mem _ hy)]
    rfl
theorem depAll_of : ∀ {xs : List Dat} {n : Nat}, (∀ x ∈ xs, PyData.depth (pyD x) ≤ n) → PyData.depthAll (pyAll xs) ≤ n
  | [], n, _ => Nat.zero_le n
  | x :: xs, n, h => by
    show max (PyData.depth (pyD x)) (PyData.depthAll (pyAll xs)) ≤ n
    exact Nat.max_le.mpr ⟨h x List.mem_cons_self, depAll_of fun y hy => h y (List.mem_cons_of_mem _ hy)⟩
theorem okE.up {n m : Nat} {d : Dat} (h : okE n d) (l : n ≤ m) : okE m d := ⟨h.1, Nat.le_trans h.2 l⟩
theorem okE_int (i : Int) (n : Nat) : okE n (.int i) := ⟨rfl, Nat.zero_le n⟩
theorem okE_tup {xs : List Dat} {n : Nat} (h : ∀ x ∈ xs, okE n x) : okE (n + 1) (.tup xs) := ⟨layAll_of fun x hx => (h x hx).1, Nat.succ_le_succ (depAll_of fun x hx => (h x hx).2)⟩
def kEqD (n : Bool) : Dat → Dat → (Dat → Prop) → Prop := fun d e P => okE 64 d ∧ okE 64 e ∧ ∀ b : Bool, (b = true ↔ d = e) → P (.bl (if n then !b else b))
theorem Pk.dp {W : Wd} {F : Addr → Prop} {H : Hp} {v : V} {d : Dat} (r : Pk W F H v d) (h : layD d = true) : Dp W.K H v (pyD d) := by
  cases r with
  | rv r => exact lay_dp r h
  | own hA _ r => exact .lst (SqL.of hA) (layAll_dp r h)
theorem rok_eqD {W : Wd} : ROk W Pk Pk Rv (rEqD W.K) (kEqD false) := fun F H x y d e Q P ok r1 r2 ⟨h1, h2, q⟩ k =>
  ⟨_, _, r1.dp h1.1, r2.dp h2.1, okE_sh h1, okE_sh h2, k _ F H _ (q _ (lay_eqv d e h1.1 h2.1)) (.refl ok) (.bl _)⟩
theorem rok_neD {W : Wd} : ROk W Pk Pk Rv (rNeD W.K) (kEqD true) := fun F H x y d e Q P ok r1 r2 ⟨h1, h2, q⟩ k =>
  ⟨_, _, r1.dp h1.1, r2.dp h2.1, okE_sh h1, okE_sh h2, k _ F H _ (q _ (lay_eqv d e h1.1 h2.1)) (.refl ok) (.bl _)⟩
abbrev ASpI := List Dat → (List Dat → Prop) → Prop
def toSpI (K : PySem.W.Frag) (ca : Nat → Addr) (c : Nat) (asp : ASpI) : Sp := fun vs H Q _ => ∃ (po : Option (Addr × Addr)) (F : Addr → Prop) (H1 : Hp) (x dx : Addr) (ws : List V) (ds : List Dat) (P : List Dat → Prop),
  vs = .ref x :: ws ∧ H = upd (upd H1 dx (.own x)) x (.ins (ca c) dx []) ∧ H1 x = none ∧ H1 dx = none ∧ dx ≠ x ∧ Okk ⟨K, ca, po⟩ F H1 ∧ RvAll ⟨K, ca, po⟩ F H1 ws ds ∧ asp ds P ∧
  ∀ fs F' H', P fs → Ext ⟨K, ca, po⟩ F H1 F' H' → Rv ⟨K, ca, po⟩ F' H' (.ref x) (.obj c fs) → Q .non H'
def aMake (c : Nat) (asp : ASpI) (aa : AFr) : AEx := fun env P => aa env fun ds => asp ds fun fs => P (.obj c fs)
theorem a_make {K : PySem.W.Frag} {ca : Nat → Addr} {po : Option (Addr × Addr)} {H0 : Hp} {n c : Nat} {E : XK} {t : TA} {aa : AFr} {asp : ASpI} (h : AArg ⟨K, ca, po⟩ H0 n t aa) :
    AExp ⟨K, ca, po⟩ H0 (tMake (ca c) (toSpI K ca c asp) [] E t) (aMake c asp aa) := ⟨fun σ env F H Q P ok m q k => h.run σ env F H _ _ ok m q fun ds F1 H1 vs p1 x1 r1 _ => by
  intro x dx hx hdx hne
  rw [List.append_nil]
  exact ⟨po, F1, H1, x, dx, vs, ds, _, rfl, rfl, hx, hdx, hne, x1.ok, r1, p1, fun fs F' H' p e r => ⟨rfl, k _ F' H' _ p (x1.trans ok e) r⟩⟩⟩
/-- the statements of an __init__: self.f = e, one for each attribute, in order; k of them are done -/
structure AIni (W : Wd) (c : Nat) (k : Nat) (ts : TS) (ai : List Sl → (List Dat → Prop) → Prop) : Prop where
  run : ∀ (H1 : Hp) (x dx : Addr) (σ : L2.St) (env : List Sl) (F1 F : Addr → Prop) (H : Hp) (fs : List (Str × V)) (ds : List Dat) (De : Ends) (P : List Dat → Prop), H1 x = none → Okk W F1 H1 → Ext W F1 H1 F H → ¬ F x → H x = some (.ins (W.ca c) dx fs) → fs.length ≤ k → RvFs W F H fs ((clsN c).take k) ds →
    (∀ m, m ∉ (clsN c).take k → fs.lookup m = none) → Mt W H1 F H σ env → σ[0]? = some (some (.ref x)) → ai env P →
    (∀ es F' H' σ', P es → Ext W F1 H1 F' H' → Rv W F' H' (.ref x) (.obj c (ds ++ es)) → De.nx σ' H') → ts De σ H
def iNil : List Sl → (List Dat → Prop) → Prop := fun _ P => P []
def iCons (ea : AEx) (ai : List Sl → (List Dat → Prop) → Prop) : List Sl → (List Dat → Prop) → Prop := fun env P => ea env fun d => ai env fun es => P (d :: es)
theorem putF_len (f : Str) (v : V) : ∀ fs : List (Str × V), (putF f v fs).length ≤ fs.length + 1
  | [] => Nat.le_refl _
  | (g, x) :: r => by
    show (if g = f then (g, v) :: r else (g, x) :: putF f v r).length ≤ _
    by_cases h : g = f
    · rw [if_pos h]
      exact Nat.le_succ _
    · rw [if_neg h]
      exact Nat.succ_le_succ (putF_len f v r)
theorem RvFs.len {W : Wd} {F : Addr → Prop} {H : Hp} : ∀ {fs : List (Str × V)} {ks : List Str} {ds : List Dat}, RvFs W F H fs ks ds → ks.length = ds.length
  | _, _, _, .nil => rfl
  | _, _, _, .cons _ _ r => congrArg (· + 1) r.len
theorem RvFs.put {W : Wd} {F : Addr → Prop} {H : Hp} {f : Str} {v : V} : ∀ {fs : List (Str × V)} {ks : List Str} {ds : List Dat}, RvFs W F H fs ks ds → f ∉ ks → RvFs W F H (putF f v fs) ks ds
  | _, _, _, .nil, _ => .nil
  | _, k :: ks, _, .cons e a r, h => .cons (by rw [lookup_putF, if_neg (fun z => h (by rw [z]; exact List.mem_cons_self))]; exact e) a (r.put fun z => h (List.mem_cons_of_mem _ z))
theorem RvFs.snoc {W : Wd} {F : Addr → Prop} {H : Hp} {f : Str} {v : V} {d : Dat} {fs : List (Str × V)} (e : fs.lookup f = some v) (a : Rv W F H v d) : ∀ {ks : List Str} {ds : List Dat}, RvFs W F H fs ks ds → RvFs W F H fs (ks ++ [f]) (ds ++ [d])
  | _, _, .nil => .cons e a .nil
  | _, _, .cons e1 a1 r => .cons e1 a1 (r.snoc e a)
theorem i_nil {W : Wd} {c : Nat} : AIni W c (clsN c).length tNext iNil := ⟨fun H1 x dx σ env F1 F H fs ds De P hx ok1 b nf hX ln r no m s0 q k => by
  rw [List.take_length] at r no
  have b2 : Ext W F1 H1 (fun a => F a ∨ a = x) H := b.fz ok1 hx hX
  refine k [] _ H σ q b2 ?_
  rw [List.append_nil]
  exact .obj (.inr rfl) hX (r.sub (sub_fz x)) no⟩
theorem i_cons {W : Wd} {c k : Nat} {te : TE} {ea : AEx} {f : Str} {ts : TS} {ai : List Sl → (List Dat → Prop) → Prop} (cl : Cls W.K (W.ca c)) (na : NoAttr W.K (W.ca c) f) (hf : (clsN c)[k]? = some f) (nd : f ∉ (clsN c).take k) (hk : k < 900) (he : ∀ H0, AExp W H0 te ea) (h2 : AIni W c (k + 1) ts ai) :
    AIni W c k (tSeq (sFld W.K (tVar 0) te f) ts) (iCons ea ai) := ⟨fun H1 x dx σ env F1 F H fs ds De P hx ok1 b nf hX ln r no m s0 q kk => by
  refine (he H1).run σ env F H _ _ b.ok m q fun d F' H' v p x1 rv => ?_
  have hX' : H' x = some (.ins (W.ca c) dx fs) := x1.kp x _ hX fun p c e => (ok1.pne hx p c e).1
  have nf' : ¬ F' x := fun f => by
    rcases x1.dn x f with z | z
    · exact nf z
    · rw [z] at hX
      cases hX
  refine ⟨.ref x, s0, x, W.ca c, dx, fs, rfl, hX', cl, na, by omega, ?_⟩
  have sb : Sub F' H' F' (upd H' x (.ins (W.ca c) dx (putF f v fs))) := fun a f => ⟨f, upd_ne (fun z => nf' (by rw [← z]; exact f))⟩
  have b' := b.trans ok1 x1
  have np := ok1.pne hx
  have b2 : Ext W F1 H1 F' (upd H' x (.ins (W.ca c) dx (putF f v fs))) := ⟨b'.up, b'.dn, fun a o ha npa => by
    rw [upd_ne (ne_of_none ha hx)]
    exact b'.kp a o ha npa, ⟨fun a f => by
    rw [(sb a f).2]
    exact x1.ok.tr a f, fun p c e => by
    obtain ⟨h1, h2, h3⟩ := x1.ok.po p c e
    exact ⟨h1.mut (np p c e).1 (np p c e).2, h2, h3⟩⟩⟩
  have tk : (clsN c).take (k + 1) = (clsN c).take k ++ [f] := by rw [List.take_add_one, hf]; rfl
  have m' := m.ext b.ok x1
  have lk : (putF f v fs).lookup f = some v := by rw [lookup_putF, if_pos rfl]
  have ll : (putF f v fs).length ≤ k + 1 := by
    have := putF_len f v fs
    omega
  refine h2.run H1 x dx σ env F1 F' _ (putF f v fs) (ds ++ [d]) De _ hx ok1 b2 nf' upd_same ll ?_ (fun mm hm => ?_) ?_ s0 p fun es F2 H2 σ2 pe e2 r2 => ?_
  · rw [tk]
    exact (((r.sub (x1.sub b.ok)).put nd).snoc lk rv).sub sb
  · rw [tk] at hm
    rw [lookup_putF, if_neg (fun z => hm (by rw [z]; exact List.mem_append.mpr (.inr List.mem_cons_self)))]
    exact no mm fun z => hm (List.mem_append.mpr (.inl z))
  · refine ⟨m'.ln, fun i s e => ?_, m'.own⟩
    obtain ⟨ov, eo, so⟩ := m'.at_ i s e
    refine ⟨ov, eo, ?_⟩
    cases s with
    | u => trivial
    | d y =>
      obtain ⟨w, ew, rw_⟩ := so
      exact ⟨w, ew, rw_.sub sb⟩
    | o us =>
      obtain ⟨a, vs, ea, nfa, n0a, ha, ra, npa⟩ := so
      have hax : a ≠ x := fun z => by
        rw [z, hX'] at ha
        cases ha
      exact ⟨a, vs, ea, nfa, n0a, by rw [upd_ne hax]; exact ha, ra.sub sb, npa⟩
  · rw [List.append_assoc] at r2
    exact kk (d :: es) F2 H2 σ2 pe e2 r2⟩
theorem twoI {b : Bool} {p q : Prop} (h1 : b = true → p) (h2 : b = false → q) : two b p q := by
  cases b with
  | true => exact h1 rfl
  | false => exact h2 rfl
theorem twoD {c p q : Prop} [Decidable c] (h1 : c → p) (h2 : ¬ c → q) : two (decide c) p q := twoI (fun h => h1 (of_decide_eq_true h)) (fun h => h2 (of_decide_eq_false h))
theorem twoN {c p q : Prop} [Decidable c] (h1 : ¬ c → p) (h2 : c → q) : two (!decide c) p q := by
  by_cases h : c
  · rw [decide_eq_true h]
    exact h2 h
  · rw [decide_eq_false h]
    exact h1 h
/-- a loop, by what holds between its turns -/
theorem forA_inv {g : ATg} {b : ASt} {D : AEnds} {ds : List Dat} {env : List Sl} (W : Nat → List Sl → Prop) (h0 : W 0 env)
    (hs : ∀ (i : Nat) (d : Dat) (env : List Sl), ds[i]? = some d → W i env → ∀ N : List Sl → Prop, (∀ env', W (i + 1) env' → N env') → g d env fun env2 => b { D with nx := N, ct := N, bk := D.nx } env2)
    (hd : ∀ env, W ds.length env → D.nx env) : forA g b D ds env := by
  have go : ∀ (n i : Nat) (env : List Sl), n + i = ds.length → W i env → forA g b D (ds.drop i) env := by
    intro n
    induction n with
    | zero =>
      intro i env e w
      have : i = ds.length := by omega
      subst this
      rw [List.drop_length]
      exact hd env w
    | succ n ih =>
      intro i env e w
      have hl : i < ds.length := by omega
      rw [List.drop_eq_getElem_cons hl]
      exact hs i _ env (List.getElem?_eq_getElem hl) w (forA g b D (ds.drop (i + 1))) fun env' w' => ih (i + 1) env' (by omega) w'
  exact go ds.length 0 env (by omega) h0
/-- .. over a range -/
theorem forA_ran {g : ATg} {b : ASt} {D : AEnds} {n : Nat} {lo : Int} {env : List Sl} (W : Nat → List Sl → Prop) (h0 : W 0 env)
    (hs : ∀ (i : Nat) (env : List Sl), i < n → W i env → ∀ N : List Sl → Prop, (∀ env', W (i + 1) env' → N env') → g (.int (lo + i)) env fun env2 => b { D with nx := N, ct := N, bk := D.nx } env2)
    (hd : ∀ env, W n env → D.nx env) : forA g b D ((List.range n).map fun i => Dat.int (lo + (i : Nat))) env := by
  refine forA_inv W h0 (fun i d env e w N hN => ?_) (fun env w => hd env (by rw [List.length_map, List.length_range] at w; exact w))
  rw [List.getElem?_map] at e
  cases h : (List.range n)[i]? with
  | none =>
    rw [h] at e
    cases e
  | some j =>
    rw [h] at e
    obtain ⟨hl, e1⟩ := List.getElem?_eq_some_iff.mp h
    rw [List.getElem_range] at e1
    subst e1
    rw [List.length_range] at hl
    cases e
    exact hs i env hl w N hN
theorem sp_ex {κ : Type} {K : PySem.W.Frag} {ca : Nat → Addr} {a : κ → ASp} {vs : List V} {H : Hp} {Q : VK} {E : XK} (h : toSp K ca (fun ds P => ∃ k, a k ds P) vs H Q E) : ∃ k, toSp K ca (a k) vs H Q E := by
  obtain ⟨po, F, ds, P, ok, r, ⟨k, q⟩, z⟩ := h
  exact ⟨k, po, F, ds, P, ok, r, q, z⟩
theorem lcA_mapL {α : Type} {f : α → Dat} {xs : List α} {el : Dat → (Option Dat → Prop) → Prop} {P : List Dat → Prop} (g : α → Dat) (h : ∀ x ∈ xs, ∀ Q : Option Dat → Prop, Q (some (g x)) → el (f x) Q) (k : P (xs.map g)) : lcA el P (xs.map f) [] := by
  have gen : ∀ (ys : List α) (acc : List Dat), (∀ x ∈ ys, ∀ Q : Option Dat → Prop, Q (some (g x)) → el (f x) Q) → P (acc ++ ys.map g) → lcA el P (ys.map f) acc := by
    intro ys
    induction ys with
    | nil =>
      intro acc _ k
      rw [List.map_nil, List.append_nil] at k
      exact k
    | cons y ys ih =>
      intro acc h k
      refine h y List.mem_cons_self _ ?_
      show lcA el P (ys.map f) (acc ++ [g y])
      refine ih _ (fun x hx => h x (List.mem_cons_of_mem _ hx)) ?_
      rw [List.append_assoc]
      exact k
  exact gen xs [] h k
theorem lcA_relL {α : Type} {f : α → Dat} {xs : List α} {el : Dat → (Option Dat → Prop) → Prop} {P : List Dat → Prop} (R : α → Dat → Prop) (h : ∀ x ∈ xs, ∀ Q : Option Dat → Prop, (∀ y, R x y → Q (some y)) → el (f x) Q) (k : ∀ ys, Paired R xs ys → P ys) : lcA el P (xs.map f) [] := by
  have gen : ∀ (zs : List α) (acc : List Dat), (∀ x ∈ zs, ∀ Q : Option Dat → Prop, (∀ y, R x y → Q (some y)) → el (f x) Q) → (∀ ys, Paired R zs ys → P (acc ++ ys)) → lcA el P (zs.map f) acc := by
    intro zs
    induction zs with
    | nil =>
      intro acc _ k
      have := k [] .nil
      rw [List.append_nil] at this
      exact this
    | cons z zs ih =>
      intro acc h k
      refine h z List.mem_cons_self _ fun y r => ?_
      show lcA el P (zs.map f) (acc ++ [y])
      refine ih _ (fun x hx => h x (List.mem_cons_of_mem _ hx)) fun ys p => ?_
      rw [List.append_assoc]
      exact k (y :: ys) (.cons r p)
  exact gen xs [] h k
theorem fn_weak {P : Program} {w : World} {K : PySem.W.Frag} {mg : Str → Option Value} {base : Heap} {CX : CXT} {k : Nat} {f : Addr} {fd : FuncData} {ps : List Str} {sp sp' : Sp} (h : ∀ vs H Q E, sp' vs H Q E → sp vs H Q E) (F : FnOk P w K mg base CX k f fd ps sp) : FnOk P w K mg base CX k f fd ps sp' := by
  obtain ⟨a, b⟩ := F
  exact ⟨fun vs H Q E z => a vs H Q E (h vs H Q E z), fun i1 i2 i3 i4 i5 i6 i7 i8 i9 i10 i11 i12 i13 z => b i1 i2 i3 i4 i5 i6 i7 i8 i9 i10 i11 i12 i13 (h _ _ _ _ z)⟩
def dgetD (kds : List (Key × Dat)) (k : Key) : Option Dat := (kds.find? fun kd => decide (kd.1 = k)).map (·.2)
theorem RvKv.dget {W : Wd} {F : Addr → Prop} {H : Hp} {k : Key} {d : Dat} : ∀ {kvs : List (Key × V)} {kds : List (Key × Dat)}, RvKv W F H kvs kds → dgetD kds k = some d → ∃ v, valV kvs k = some v ∧ Rv W F H v d
  | _, _, .nil, e => by cases e
  | _, _, .cons (k := k') (v := v) (kvs := kvs) (d := d') (kds := kds) a r, e => by
    by_cases h : k' = k
    · have e' : dgetD ((k', d') :: kds) k = some d' := by simp [dgetD, List.find?_cons, h]
      rw [e'] at e
      cases e
      exact ⟨v, valV_pos (p := (k', v)) h, a⟩
    · have e' : dgetD ((k', d') :: kds) k = dgetD kds k := by simp [dgetD, List.find?_cons, h]
      rw [e'] at e
      rw [valV_neg (p := (k', v)) h]
      exact r.dget e
theorem RvKv.zip {W : Wd} {F : Addr → Prop} {H : Hp} : ∀ {ks : List Key} {vs : List V} {ds : List Dat}, RvAll W F H vs ds → RvKv W F H (ks.zip vs) (ks.zip ds)
  | [], _, _, _ => .nil
  | _ :: _, _, _, .nil => .nil
  | _ :: _, _, _, .cons a r => .cons a (RvKv.zip r)
section
variable {W : Wd} {H0 : Hp} {te ta tb : TE} {ae ea eb : AEx}
def kDget : Dat → Dat → (Dat → Prop) → Prop
  | .dK kds, .str s, P => oQ (dgetD kds (.inr s)) P
  | .dK kds, .int i, P => oQ (dgetD kds (.inl i)) P
  | _, _, _ => False
theorem a_dget (ha : AExp W H0 ta ea) (hb : AExp W H0 tb eb) : AExp W H0 (tDGet ta tb) (a2 kDget ea eb) := ⟨fun σ env F H Q P ok m q k => ha.run σ env F H _ _ ok m q fun d F1 H1 v p1 x1 r1 => hb.run σ env F1 H1 _ _ x1.ok (m.ext ok x1) p1 fun e F2 H2 u p2 x2 r2 => by
  have r1' := r1.sub (x2.sub x1.ok)
  cases r1' with
  | @dK a kvs kds fa hA rr =>
    cases r2 with
    | str s =>
      have p2 : oQ (dgetD kds (.inr s)) P := p2
      cases g : dgetD kds (.inr s) with
      | none =>
        rw [g] at p2
        exact p2.elim
      | some z =>
        rw [g] at p2
        obtain ⟨w, e1, rw_⟩ := rr.dget g
        exact ⟨a, w, rfl, by rw [← e1]; exact DGet.k (k := .inr s) hA, k z F2 H2 w p2 (x1.trans ok x2) rw_⟩
    | int i =>
      have p2 : oQ (dgetD kds (.inl i)) P := p2
      cases g : dgetD kds (.inl i) with
      | none =>
        rw [g] at p2
        exact p2.elim
      | some z =>
        rw [g] at p2
        obtain ⟨w, e1, rw_⟩ := rr.dget g
        exact ⟨a, w, rfl, by rw [← e1]; exact DGet.k (k := .inl i) hA, k z F2 H2 w p2 (x1.trans ok x2) rw_⟩
    | _ => exact p2.elim
  | _ => exact p2.elim⟩
def kIsO (c : Nat) : Dat → (Dat → Prop) → Prop
  | .obj c' _, P => c' = c ∧ P (.bl true)
  | _, _ => False
def tyD : Dat → String
  | .non => "NoneType"
  | .bl _ => "bool"
  | .int _ => "int"
  | .str _ => "str"
  | .lst _ => "list"
  | .tup _ => "tuple"
  | .pool => "list"
  | .dK _ => "dict"
  | .dT _ _ => "dict"
  | .rng _ _ => ""
  | .obj _ _ => ""
  | .cell _ => ""
/-- isinstance(x, T), T one of int, bool, str, list, tuple -/
def kIsT (T : String) : Dat → (Dat → Prop) → Prop := fun d P => match d with
  | .obj _ _ => False
  | .pool => False
  | .dK _ => False
  | .dT _ _ => False
  | .rng _ _ => False
  | .cell _ => False
  | d => P (.bl (decide (tyD d = T) || (decide (tyD d = "bool") && decide (T = "int"))))
theorem kitB_all : ∀ n ∈ ["NoneType", "bool", "int", "str", "list", "tuple"], ∀ T ∈ ["int", "bool", "str", "list", "tuple"], kitB n T = some (decide (n = T) || (decide (n = "bool") && decide (T = "int"))) := by decide +kernel
theorem a_isT {T : String} (hT : T ∈ ["int", "bool", "str", "list", "tuple"] := by decide) (ha : AExp W H0 ta ea) : AExp W H0 (tCB (rIsi W.K) (tCons ta (tCons (tC (.ty T)) tNil))) (a1 (kIsT T) ea) := ⟨fun σ env F H Q P ok m q k => ha.run σ env F H _ _ ok m q fun d F1 H1 v p1 x1 r1 => by
  cases r1 with
  | non => exact ⟨_, _, _, _, _, rfl, .ty _, .base .non, kit_ty (kitB_all "NoneType" (by decide) T hT), k _ F1 H1 _ p1 x1 (.bl _)⟩
  | bl b => exact ⟨_, _, _, _, _, rfl, .ty _, .base (.bl b), kit_ty (kitB_all "bool" (by decide) T hT), k _ F1 H1 _ p1 x1 (.bl _)⟩
  | int b => exact ⟨_, _, _, _, _, rfl, .ty _, .base (.int b), kit_ty (kitB_all "int" (by decide) T hT), k _ F1 H1 _ p1 x1 (.bl _)⟩
  | str b => exact ⟨_, _, _, _, _, rfl, .ty _, .base (.str b), kit_ty (kitB_all "str" (by decide) T hT), k _ F1 H1 _ p1 x1 (.bl _)⟩
  | lst f h r => exact ⟨_, _, _, _, _, rfl, .ty _, .base (.lst h), kit_ty (kitB_all "list" (by decide) T hT), k _ F1 H1 _ p1 x1 (.bl _)⟩
  | tup h r =>
    obtain ⟨fa, o, ho, ob, hd, rfl⟩ := h
    exact ⟨_, _, _, _, _, rfl, .ty _, .fTuple ho, kit_ty (kitB_all "tuple" (by decide) T hT), k _ F1 H1 _ p1 x1 (.bl _)⟩
  | _ => exact p1.elim⟩
theorem RvAll.reverse {F : Addr → Prop} {H : Hp} : ∀ {vs : List V} {ds : List Dat}, RvAll W F H vs ds → RvAll W F H vs.reverse ds.reverse
  | _, _, .nil => .nil
  | _, _, .cons a r => by
    rw [List.reverse_cons, List.reverse_cons]
    exact (RvAll.reverse r).append (.cons a .nil)
def aRevT (ea : AEx) : AEx := fun env P => ea env fun x => tQ x fun xs => P (.tup xs.reverse)
def aRevL (ea : AEx) : AFr := fun env P => ea env fun x => lQ x fun xs => P xs.reverse
theorem i_ran2 {t : TA} {aa : AFr} (h : AArg W H0 2 t aa) : AIter W H0 (iRng2 t) (iRan aa) := ⟨fun σ env F H R P ok m q k => h.run σ env F H _ _ ok m q fun ds F1 H1 vs p1 x1 r1 l1 => by
  match ds, l1, p1, r1 with
  | [.int i, .int j], _, p1, .cons r (.cons r2 .nil) =>
    obtain ⟨p0, p1⟩ := p1
    cases r
    cases r2
    exact ⟨i, j, rfl, ⟨by omega, by omega, by omega, by omega⟩, k _ F1 H1 _ p1 x1 (it_ran i (j - i).toNat)⟩⟩
end
inductive Ce where
  | lst (xs : List Dat)
  | obj (k : Nat) (ds : List Dat)
  | dK (kvs : List (Key × Dat))
  | dT (ks : List (List Int)) (ds : List Dat)
  | xd (k : Nat) (ds : List Dat)
abbrev Sto := Addr → Option Ce
def Sto.put (M : Sto) (a : Addr) (c : Option Ce) : Sto := fun b => if b = a then c else M b
theorem Sto.put_s {M : Sto} {a : Addr} {c : Option Ce} : M.put a c a = c := if_pos rfl
theorem Sto.put_n {M : Sto} {a b : Addr} {c : Option Ce} (h : b ≠ a) : M.put a c b = M b := if_neg h
/-- the attribute of the errors of a class, by the class's number -/
def xcN : Nat → Option Str
  | 10 => some "what"
  | 11 => some "what"
  | 12 => some "what"
  | 13 => some "what"
  | 14 => some "at"
  | _ => none
def CeOk (W : Wd) (F : Addr → Prop) (H : Hp) (a : Addr) : Ce → Prop
  | .lst xs => ∃ vs, H a = some (.lst vs) ∧ RvAll W F H vs xs
  | .obj k ds => ∃ dx fs, H a = some (.ins (W.ca k) dx fs) ∧ fs.length ≤ ds.length ∧ RvFs W F H fs ((clsN k).take ds.length) ds ∧ ∀ m, m ∉ (clsN k).take ds.length → fs.lookup m = none
  | .dK kvs => ∃ us, H a = some (.dK us) ∧ RvKv W F H us kvs
  | .dT ks ds => ∃ xs vs, H a = some (dicT a xs) ∧ ks = xs.map (·.1) ∧ (∀ x ∈ xs, FzT W F H x.2.1 (x.1.map V.int)) ∧ Vals vs (xs.map (·.2.2)) ∧ RvAll W F H vs ds
  | .xd k ds => ∃ f v x, xcN k = some f ∧ H a = some (.xd [(f, v)]) ∧ ds = [x] ∧ Rv W F H v x
theorem CeOk.there {W : Wd} {F : Addr → Prop} {H : Hp} {a : Addr} : ∀ {c : Ce}, CeOk W F H a c → H a ≠ none
  | .lst _, ⟨_, h, _⟩ => fun z => by rw [z] at h; cases h
  | .obj _ _, ⟨_, _, h, _⟩ => fun z => by rw [z] at h; cases h
  | .dK _, ⟨_, h, _⟩ => fun z => by rw [z] at h; cases h
  | .dT _ _, ⟨_, _, h, _⟩ => fun z => by rw [z] at h; cases h
  | .xd _ _, ⟨_, _, _, _, h, _⟩ => fun z => by rw [z] at h; cases h
theorem CeOk.sub {W : Wd} {F F' : Addr → Prop} {H H' : Hp} {a : Addr} (s : Sub F H F' H') (e : H' a = H a) : ∀ {c : Ce}, CeOk W F H a c → CeOk W F' H' a c
  | .lst _, ⟨vs, h, r⟩ => ⟨vs, e.trans h, r.sub s⟩
  | .obj _ _, ⟨dx, fs, h, l, r, n⟩ => ⟨dx, fs, e.trans h, l, r.sub s, n⟩
  | .dK _, ⟨us, h, r⟩ => ⟨us, e.trans h, r.sub s⟩
  | .dT _ _, ⟨xs, vs, h, k, g, l, r⟩ => ⟨xs, vs, e.trans h, k, fun x hx => (g x hx).sub s, l, r.sub s⟩
  | .xd _ _, ⟨f, v, x, h0, h, h1, r⟩ => ⟨f, v, x, h0, e.trans h, h1, r.sub s⟩
/-- not the pool, nor its copy -/
def NPc (W : Wd) (a : Addr) : Prop := ∀ p c, W.po = some (p, c) → a ≠ p ∧ a ≠ c
theorem NPc.np {W : Wd} {a : Addr} (h : NPc W a) : NPo W a := fun p c e => (h p c e).1
structure SoOk (W : Wd) (F : Addr → Prop) (H : Hp) (M : Sto) : Prop where
  ok : Okk W F H
  at_ : ∀ a c, M a = some c → ¬ F a ∧ NPc W a ∧ CeOk W F H a c
structure Ex2 (W : Wd) (F : Addr → Prop) (H : Hp) (M : Sto) (F' : Addr → Prop) (H' : Hp) (M' : Sto) : Prop where
  up : ∀ a, F a → F' a
  dn : ∀ a, F' a → F a ∨ H a = none ∨ M a ≠ none
  kp : ∀ a o, H a = some o → NPo W a → M a = none → H' a = some o
  al : ∀ a, H a ≠ none → H' a ≠ none
  md : ∀ a, M' a ≠ none → M a ≠ none ∨ H a = none
  ok : SoOk W F' H' M'
section
variable {W : Wd} {F F' F2 : Addr → Prop} {H H' H2 : Hp} {M M' M2 : Sto}
theorem SoOk.nf (ok : SoOk W F H M) {a : Addr} (f : F a) : M a = none := by
  cases e : M a with
  | none => rfl
  | some c => exact absurd f (ok.at_ a c e).1
theorem SoOk.al (ok : SoOk W F H M) {a : Addr} (h : M a ≠ none) : H a ≠ none := by
  cases e : M a with
  | none => exact absurd e h
  | some c => exact (ok.at_ a c e).2.2.there
theorem SoOk.new (ok : SoOk W F H M) {a : Addr} (h : H a = none) : M a = none := by
  cases e : M a with
  | none => rfl
  | some c => exact absurd h (ok.al (by rw [e]; exact fun z => by cases z))
theorem Ex2.sub (ok : SoOk W F H M) (x : Ex2 W F H M F' H' M') : Sub F H F' H' := fun a f => by
  refine ⟨x.up a f, ?_⟩
  cases e : H a with
  | none => exact absurd e (ok.ok.tr a f)
  | some o => exact x.kp a o e (ok.ok.np f) (ok.nf f)
theorem Ex2.refl (ok : SoOk W F H M) : Ex2 W F H M F H M := ⟨fun _ f => f, fun _ f => .inl f, fun _ _ e _ _ => e, fun _ h => h, fun _ h => .inl h, ok⟩
theorem Ex2.there (x : Ex2 W F H M F' H' M') {a : Addr} (h : H' a = none) : H a = none := by
  cases e : H a with
  | none => rfl
  | some o => exact absurd h (x.al a (by rw [e]; exact fun z => by cases z))
theorem Ex2.trans (x : Ex2 W F H M F' H' M') (y : Ex2 W F' H' M' F2 H2 M2) : Ex2 W F H M F2 H2 M2 := by
  refine ⟨fun a f => y.up a (x.up a f), fun a f => ?_, fun a o e n m => ?_, fun a h => y.al a (x.al a h), fun a h => ?_, y.ok⟩
  · rcases y.dn a f with z | z | z
    · exact x.dn a z
    · exact .inr (.inl (x.there z))
    · rcases x.md a z with u | u
      · exact .inr (.inr u)
      · exact .inr (.inl u)
  · refine y.kp a o (x.kp a o e n m) n ?_
    cases e2 : M' a with
    | none => rfl
    | some c =>
      rcases x.md a (by rw [e2]; exact fun z => by cases z) with u | u
      · exact absurd m u
      · rw [u] at e
        cases e
  · rcases y.md a h with z | z
    · exact x.md a z
    · exact .inr (x.there z)
theorem Ext.ex2 (ok : SoOk W F H M) (x : Ext W F H F' H') : Ex2 W F H M F' H' M := by
  refine ⟨x.up, fun a f => ?_, fun a o e n _ => x.kp a o e n, fun a h z => h (x.there ok.ok z), fun a h => .inl h, x.ok, fun a c e => ?_⟩
  · rcases x.dn a f with z | z
    · exact .inl z
    · exact .inr (.inl z)
  · obtain ⟨h1, h2, h3⟩ := ok.at_ a c e
    have ha : H' a = H a := by
      cases e2 : H a with
      | none => exact absurd e2 h3.there
      | some o => exact x.kp a o e2 h2.np
    refine ⟨fun f => ?_, h2, h3.sub (x.sub ok.ok) ha⟩
    rcases x.dn a f with z | z
    · exact h1 z
    · exact h3.there z
/-- what stood apart from cells and data stays apart -/
theorem Ex2.own (x : Ex2 W F H M F' H' M') {a : Addr} {o : HO} (nf : ¬ F a) (hA : H a = some o) (m : M a = none) (np : NPc W a) : ¬ F' a ∧ H' a = some o ∧ M' a = none := by
  refine ⟨fun f => ?_, x.kp a o hA np.np m, ?_⟩
  · rcases x.dn a f with z | z | z
    · exact nf z
    · rw [z] at hA
      cases hA
    · exact z m
  · cases e2 : M' a with
    | none => rfl
    | some c =>
      rcases x.md a (by rw [e2]; exact fun z => by cases z) with u | u
      · exact absurd m u
      · rw [u] at hA
        cases hA
/-- a cell is changed -/
theorem SoOk.upd_cell (ok : SoOk W F H M) {a : Addr} {o : HO} {c0 c1 : Ce} (h0 : M a = some c0) (h1 : CeOk W F (upd H a o) a c1) : Ex2 W F H M F (upd H a o) (M.put a (some c1)) := by
  obtain ⟨nf, np, c3⟩ := ok.at_ a c0 h0
  have sb : Sub F H F (upd H a o) := fun c f => ⟨f, upd_ne (fun z => nf (by rw [← z]; exact f))⟩
  refine ⟨fun _ f => f, fun _ f => .inl f, fun b u e n m => ?_, fun b h => ?_, fun b h => ?_, ⟨fun c f => ?_, fun p c ep => ?_⟩, fun c e h => ?_⟩
  · have hne : b ≠ a := fun z => by rw [z, h0] at m; cases m
    rw [upd_ne hne]
    exact e
  · by_cases z : b = a
    · rw [z, upd_same]
      exact fun z => by cases z
    · rw [upd_ne z]
      exact h
  · by_cases z : b = a
    · rw [z, h0]
      exact .inl fun z => by cases z
    · rw [Sto.put_n z] at h
      exact .inl h
  · rw [(sb c f).2]
    exact ok.ok.tr c f
  · obtain ⟨h1, h2, h3⟩ := ok.ok.po p c ep
    exact ⟨h1.mut (np p c ep).1 (np p c ep).2, h2, h3⟩
  · by_cases z : c = a
    · subst z
      rw [Sto.put_s] at h
      cases h
      exact ⟨nf, np, h1⟩
    · rw [Sto.put_n z] at h
      obtain ⟨k1, k2, k3⟩ := ok.at_ c e h
      exact ⟨k1, k2, k3.sub sb (upd_ne z)⟩
/-- a new cell: its object stands, apart from all else -/
theorem SoOk.new_cell (ok : SoOk W F H M) {a : Addr} {c1 : Ce} (nf : ¬ F a) (m : M a = none) (np : NPc W a) (h1 : CeOk W F H a c1) : SoOk W F H (M.put a (some c1)) := by
  refine ⟨ok.ok, fun c e h => ?_⟩
  by_cases z : c = a
  · subst z
    rw [Sto.put_s] at h
    cases h
    exact ⟨nf, np, h1⟩
  · rw [Sto.put_n z] at h
    exact ok.at_ c e h
/-- an address that stands apart is settled -/
theorem SoOk.fz (ok : SoOk W F H M) {a : Addr} (h : H a ≠ none) (m : M a = none) (np : NPc W a) : SoOk W (fun b => F b ∨ b = a) H M := by
  have sb : Sub F H (fun b => F b ∨ b = a) H := fun _ f => ⟨.inl f, rfl⟩
  refine ⟨⟨fun c f => ?_, fun p c ep => ?_⟩, fun c e q => ?_⟩
  · rcases f with f | rfl
    · exact ok.ok.tr c f
    · exact h
  · obtain ⟨h1, h2, h3⟩ := ok.ok.po p c ep
    refine ⟨h1, fun f => ?_, fun f => ?_⟩
    · rcases f with f | f
      · exact h2 f
      · exact (np p c ep).1 f.symm
    · rcases f with f | f
      · exact h3 f
      · exact (np p c ep).2 f.symm
  · obtain ⟨k1, k2, k3⟩ := ok.at_ c e q
    refine ⟨fun f => ?_, k2, k3.sub sb rfl⟩
    rcases f with f | f
    · exact k1 f
    · rw [f, m] at q
      cases q
end
/-- the heap at the entry of a def, with the cells: what the def's own lists are not -/
def mask (H0 : Hp) (M : Sto) : Hp := fun a => match M a with
  | some _ => some (.lst [])
  | none => H0 a
theorem mask_none {H0 : Hp} {M : Sto} {a : Addr} : mask H0 M a = none ↔ M a = none ∧ H0 a = none := by
  unfold mask
  cases M a with
  | none => exact ⟨fun h => ⟨rfl, h⟩, fun h => h.2⟩
  | some c => exact ⟨fun h => (by cases h), fun h => (by cases h.1)⟩
abbrev Mt2 (W : Wd) (H0 : Hp) (F : Addr → Prop) (H : Hp) (M : Sto) (σ : L2.St) (env : List Sl) : Prop := Mt W (mask H0 M) F H σ env
theorem Mt.ex2 {W : Wd} {H0 : Hp} {F F' : Addr → Prop} {H H' : Hp} {M M' : Sto} {σ : L2.St} {env : List Sl} (ok : SoOk W F H M) (x : Ex2 W F H M F' H' M') (m : Mt2 W H0 F H M σ env) : Mt2 W H0 F' H' M' σ env :=
  ⟨m.ln, fun i s e => by
    obtain ⟨ov, e1, r⟩ := m.at_ i s e
    refine ⟨ov, e1, ?_⟩
    cases s with
    | u => trivial
    | d y =>
      obtain ⟨v, e, r⟩ := r
      exact ⟨v, e, r.sub (x.sub ok)⟩
    | o xs =>
      obtain ⟨a, vs, e, nf, n0, h, r, np⟩ := r
      obtain ⟨m0, n0⟩ := mask_none.mp n0
      obtain ⟨h1, h2, h3⟩ := x.own nf h m0 np
      exact ⟨a, vs, e, h1, mask_none.mpr ⟨h3, n0⟩, h2, r.sub (x.sub ok), np⟩, m.own⟩
abbrev XD := Nat → List Dat → Sto → Prop
/-- what an error carries: nothing, or a new dict with its one attribute -/
def XAt (W : Wd) (F : Addr → Prop) (H : Hp) (M : Sto) (k : Nat) (d : Option Addr) (ds : List Dat) : Prop := match xcN k with
  | none => d = none ∧ ds = []
  | some f => ∃ a v x, d = some a ∧ H a = some (.xd [(f, v)]) ∧ ds = [x] ∧ Rv W F H v x ∧ ¬ F a ∧ M a = none ∧ NPc W a
def XOk (W : Wd) (F : Addr → Prop) (H : Hp) (M : Sto) (E : XK) (X : XD) : Prop := ∀ k ds d F' H' M', Ex2 W F H M F' H' M' → XAt W F' H' M' k d ds → (∀ a, d = some a → H a = none) → X k ds M' → E (.ref (W.ca k)) d H'
theorem XOk.step {W : Wd} {F F' : Addr → Prop} {H H' : Hp} {M M' : Sto} {E : XK} {X : XD} (x : Ex2 W F H M F' H' M') (h : XOk W F H M E X) : XOk W F' H' M' E X := fun k ds d F2 H2 M2 y xa nw => h k ds d F2 H2 M2 (x.trans y) xa fun a e => x.there (nw a e)
/-- what becomes of an error, by the slots -/
abbrev XS := L2.St → XK
structure Cfg (W : Wd) (H0 : Hp) (E : XS) (F : Addr → Prop) (H : Hp) (M : Sto) (σ : L2.St) (env : List Sl) (X : XD) : Prop where
  st : SoOk W F H M
  m : Mt2 W H0 F H M σ env
  x : XOk W F H M (E σ) X
theorem Cfg.step {W : Wd} {H0 : Hp} {E : XS} {F F' : Addr → Prop} {H H' : Hp} {M M' : Sto} {σ : L2.St} {env : List Sl} {X : XD} (c : Cfg W H0 E F H M σ env X) (x : Ex2 W F H M F' H' M') : Cfg W H0 E F' H' M' σ env X :=
  ⟨x.ok, c.m.ex2 c.st x, c.x.step x⟩
abbrev BEx := List Sl → Sto → XD → (Dat → Sto → Prop) → Prop
abbrev BFr := List Sl → Sto → XD → (List Dat → Sto → Prop) → Prop
abbrev BTs := List Sl → Sto → XD → (Bool → Sto → Prop) → Prop
abbrev Rel2 := Wd → (Addr → Prop) → Hp → Sto → V → Dat → Prop
def Rv2 : Rel2 := fun W F H _ v d => Rv W F H v d
/-- read, not kept -/
inductive Pk2 (W : Wd) (F : Addr → Prop) (H : Hp) (M : Sto) : V → Dat → Prop
  | rv {v : V} {d : Dat} : Rv W F H v d → Pk2 W F H M v d
  | own {a : Addr} {vs : List V} {ds : List Dat} : H a = some (.lst vs) → NPo W a → M a = none → ¬ F a → RvAll W F H vs ds → Pk2 W F H M (.ref a) (.lst ds)
structure Pst2 (R : Rel2) : Prop where
  run : ∀ {W : Wd} {F F' : Addr → Prop} {H H' : Hp} {M M' : Sto} {v : V} {d : Dat}, SoOk W F H M → Ex2 W F H M F' H' M' → R W F H M v d → R W F' H' M' v d
theorem pst_rv2 : Pst2 Rv2 := ⟨fun k x r => Rv.sub (x.sub k) r⟩
/-- what a list's cell holds, read as it stands -/
def drc : Addr → Option Ce → Dat
  | _, some (.lst xs) => .lst xs
  | a, _ => .cell a
def drf (M : Sto) : Dat → Dat
  | .cell a => drc a (M a)
  | d => d
/-- how a kind of reading is used: as it is, or looked up -/
structure Cv (R : Rel2) (S : Rel) (D : Sto → Dat → Dat) : Prop where
  run : ∀ {W : Wd} {F : Addr → Prop} {H : Hp} {M : Sto} {v : V} {d : Dat}, SoOk W F H M → R W F H M v d → S W F H v (D M d)
def dId : Sto → Dat → Dat := fun _ d => d
theorem cv_rv : Cv Rv2 Rv dId := ⟨fun _ r => r⟩
theorem cv_pk : Cv Pk2 Pk drf := ⟨fun {W F H M v d} ok r => by
  cases r with
  | own h n m nf r => exact .own h n r
  | rv r =>
    cases r with
    | cell a =>
      show Pk W F H (.ref a) (drc a (M a))
      cases e : M a with
      | none => exact .rv (.cell a)
      | some c =>
        cases c with
        | lst xs =>
          obtain ⟨_, np, vs, h, r⟩ := ok.at_ a _ e
          exact .own h np.np r
        | obj k ds => exact .rv (.cell a)
        | dK kvs => exact .rv (.cell a)
        | dT ks ds => exact .rv (.cell a)
        | xd _ _ => exact .rv (.cell a)
    | non => exact .rv .non
    | bl b => exact .rv (.bl b)
    | int i => exact .rv (.int i)
    | str x => exact .rv (.str x)
    | pool h => exact .rv (.pool h)
    | lst f h r => exact .rv (.lst f h r)
    | tup h r => exact .rv (.tup h r)
    | obj f h r n => exact .rv (.obj f h r n)
    | dK f h r => exact .rv (.dK f h r)
    | dT f h k g l r => exact .rv (.dT f h k g l r)
    | rng f h => exact .rv (.rng f h)⟩
structure BEg (R : Rel2) (W : Wd) (H0 : Hp) (E : XS) (te : TE) (be : BEx) : Prop where
  run : ∀ (σ : L2.St) (env : List Sl) (F : Addr → Prop) (H : Hp) (M : Sto) (Q : VK) (P : Dat → Sto → Prop) (X : XD), Cfg W H0 E F H M σ env X → be env M X P → (∀ d F' H' v M', P d M' → Ex2 W F H M F' H' M' → R W F' H' M' v d → Q v H') → te σ H Q
abbrev BExp : Wd → Hp → XS → TE → BEx → Prop := BEg Rv2
structure BFrs (W : Wd) (H0 : Hp) (E : XS) (te : TE) (be : BFr) : Prop where
  run : ∀ (σ : L2.St) (env : List Sl) (F : Addr → Prop) (H : Hp) (M : Sto) (Q : VK) (P : List Dat → Sto → Prop) (X : XD), Cfg W H0 E F H M σ env X → be env M X P →
    (∀ ds F' H' a vs M', P ds M' → Ex2 W F H M F' H' M' → H a = none → ¬ F' a → M' a = none → H' a = some (.lst vs) → RvAll W F' H' vs ds → Q (.ref a) H') → te σ H Q
structure BTst (W : Wd) (H0 : Hp) (E : XS) (tt : TT) (bt : BTs) : Prop where
  run : ∀ (σ : L2.St) (env : List Sl) (F : Addr → Prop) (H : Hp) (M : Sto) (Q : Bool → Hp → Prop) (P : Bool → Sto → Prop) (X : XD), Cfg W H0 E F H M σ env X → bt env M X P → (∀ b F' H' M', P b M' → Ex2 W F H M F' H' M' → Q b H') → tt σ H Q
structure BArg (W : Wd) (H0 : Hp) (E : XS) (n : Nat) (ta : TA) (ba : BFr) : Prop where
  run : ∀ (σ : L2.St) (env : List Sl) (F : Addr → Prop) (H : Hp) (M : Sto) (Q : List V → Hp → Prop) (P : List Dat → Sto → Prop) (X : XD), Cfg W H0 E F H M σ env X → ba env M X P →
    (∀ ds F' H' vs M', P ds M' → Ex2 W F H M F' H' M' → RvAll W F' H' vs ds → ds.length = n → Q vs H') → ta σ H Q
structure BIter (W : Wd) (H0 : Hp) (E : XS) (wi : TI) (bi : BFr) : Prop where
  run : ∀ (σ : L2.St) (env : List Sl) (F : Addr → Prop) (H : Hp) (M : Sto) (R : It → Hp → Prop) (P : List Dat → Sto → Prop) (X : XD), Cfg W H0 E F H M σ env X → bi env M X P →
    (∀ ds F' H' J M', P ds M' → Ex2 W F H M F' H' M' → ItOk W J F' H' ds → R J H') → wi σ H R
def upE (ae : AEx) : BEx := fun env M _ P => ae env fun d => P d M
def upF (ae : AFr) : BFr := fun env M _ P => ae env fun d => P d M
def upT (at_ : ATs) : BTs := fun env M _ P => at_ env fun b => P b M
section
variable {W : Wd} {H0 : Hp} {E : XS} {te ta tb tc : TE} {ae : AEx} {be ea eb ec : BEx} {tt t u : TT} {bt bu : BTs}
theorem b_up (h : ∀ H0, AExp W H0 te ae) : BExp W H0 E te (upE ae) := ⟨fun σ env F H M Q P X c q k => (h _).run σ env F H Q _ c.st.ok c.m q fun d F' H' v p x r => k d F' H' v M p (x.ex2 c.st) r⟩
theorem b_upF {af : AFr} (h : ∀ H0, AFrs W H0 te af) : BFrs W H0 E te (upF af) := ⟨fun σ env F H M Q P X c q k => (h _).run σ env F H Q _ c.st.ok c.m q fun ds F' H' a vs p x n nf ha r => k ds F' H' a vs M p (x.ex2 c.st) n nf (c.st.new n) ha r⟩
theorem b_upT {at_ : ATs} (h : ∀ H0, ATst W H0 tt at_) : BTst W H0 E tt (upT at_) := ⟨fun σ env F H M Q P X c q k => (h _).run σ env F H Q _ c.st.ok c.m q fun b F' H' p x => k b F' H' M p (x.ex2 c.st)⟩
theorem b_upA {n : Nat} {t : TA} {aa : AFr} (h : ∀ H0, AArg W H0 n t aa) : BArg W H0 E n t (upF aa) := ⟨fun σ env F H M Q P X c q k => (h _).run σ env F H Q _ c.st.ok c.m q fun ds F' H' vs p x r l => k ds F' H' vs M p (x.ex2 c.st) r l⟩
theorem b_upI {wi : TI} {ai : AFr} (h : ∀ H0, AIter W H0 wi ai) : BIter W H0 E wi (upF ai) := ⟨fun σ env F H M R P X c q k => (h _).run σ env F H R _ c.st.ok c.m q fun ds F' H' J p x r => k ds F' H' J M p (x.ex2 c.st) r⟩
/-- a value that is only looked at -/
theorem b_pk (h : BExp W H0 E te be) : BEg Pk2 W H0 E te be := ⟨fun σ env F H M Q P X c q k => h.run σ env F H M Q P X c q fun d F' H' v M' p x r => k d F' H' v M' p x (.rv r)⟩
theorem npc_new {F : Addr → Prop} {H : Hp} (ok : Okk W F H) {a : Addr} (n : H a = none) : NPc W a := ok.pne n
/-- a new list, settled at once -/
def bFz (be : BFr) : BEx := fun env M X P => be env M X fun ds M' => P (.lst ds) M'
theorem b_fz {bf : BFr} (h : BFrs W H0 E te bf) : BExp W H0 E te (bFz bf) := ⟨fun σ env F H M Q P X c q k => h.run σ env F H M Q _ X c q fun ds F' H' a vs M' p x n nf m ha r => by
  have np := npc_new c.st.ok n
  have hn : H' a ≠ none := by rw [ha]; exact fun z => by cases z
  refine k (.lst ds) (fun b => F' b ∨ b = a) H' (.ref a) M' p ⟨fun b f => .inl (x.up b f), fun b f => ?_, x.kp, x.al, x.md, x.ok.fz hn m np⟩ (.lst (.inr rfl) ha (r.sub (sub_fz a)))
  rcases f with f | rfl
  · exact x.dn b f
  · exact .inr (.inl n)⟩
/-- a new list, from now on a cell -/
def bCel (be : BFr) : BEx := fun env M X P => be env M X fun ds M' => ∀ a, M' a = none → P (.cell a) (M'.put a (some (.lst ds)))
theorem b_cel {bf : BFr} (h : BFrs W H0 E te bf) : BExp W H0 E te (bCel bf) := ⟨fun σ env F H M Q P X c q k => h.run σ env F H M Q _ X c q fun ds F' H' a vs M' p x n nf m ha r => by
  have np := npc_new c.st.ok n
  refine k (.cell a) F' H' (.ref a) _ (p a m) ⟨x.up, x.dn, x.kp, x.al, fun b h => ?_, x.ok.new_cell nf m np ⟨vs, ha, r⟩⟩ (.cell a)
  by_cases z : b = a
  · rw [z]
    exact .inr n
  · rw [Sto.put_n z] at h
    exact x.md b h⟩
def b2 (D1 D2 : Sto → Dat → Dat) (f : Dat → Dat → (Dat → Prop) → Prop) (ea eb : BEx) : BEx := fun env M X P => ea env M X fun x M1 => eb env M1 X fun y M2 => f (D1 M2 x) (D2 M2 y) fun z => P z M2
theorem b_op {R1 R2 : Rel2} {S1 S2 : Rel} {D1 D2 : Sto → Dat → Dat} {r : L2.R2} {f : Dat → Dat → (Dat → Prop) → Prop} (pr : Pst2 R1) (c1 : Cv R1 S1 D1) (c2 : Cv R2 S2 D2) (hr : ROk W S1 S2 Rv r f) (ha : BEg R1 W H0 E ta ea) (hb : BEg R2 W H0 E tb eb) : BExp W H0 E (tOp r ta tb) (b2 D1 D2 f ea eb) :=
  ⟨fun σ env F H M Q P X c q k => ha.run σ env F H M _ _ X c q fun d F1 H1 v M1 p1 x1 r1 => hb.run σ env F1 H1 M1 _ _ X (c.step x1) p1 fun e F2 H2 u M2 p2 x2 r2 =>
    hr F2 H2 v u _ _ Q _ x2.ok.ok (c1.run x2.ok (pr.run x1.ok x2 r1)) (c2.run x2.ok r2) p2 fun z F3 H3 w p3 x3 r3 => k z F3 H3 w M2 p3 ((x1.trans x2).trans (x3.ex2 x2.ok)) r3⟩
def b2F (D1 D2 : Sto → Dat → Dat) (f : Dat → Dat → (List Dat → Prop) → Prop) (ea eb : BEx) : BFr := fun env M X P => ea env M X fun x M1 => eb env M1 X fun y M2 => f (D1 M2 x) (D2 M2 y) fun z => P z M2
def b1 (D : Sto → Dat → Dat) (f : Dat → (Dat → Prop) → Prop) (ea : BEx) : BEx := fun env M X P => ea env M X fun x M1 => f (D M1 x) fun z => P z M1
def b1F (D : Sto → Dat → Dat) (f : Dat → (List Dat → Prop) → Prop) (ea : BEx) : BFr := fun env M X P => ea env M X fun x M1 => f (D M1 x) fun z => P z M1
theorem b_b1 {R : Rel2} {S : Rel} {D : Sto → Dat → Dat} {r : List V → Hp → VK → Prop} {f : Dat → (Dat → Prop) → Prop} (cv : Cv R S D) (hr : UOk W S r f) (ha : BEg R W H0 E te be) : BExp W H0 E (tCB r (tCons te tNil)) (b1 D f be) :=
  ⟨fun σ env F H M Q P X c q k => ha.run σ env F H M _ _ X c q fun d F1 H1 v M1 p1 x1 r1 => hr F1 H1 v _ Q _ x1.ok.ok (cv.run x1.ok r1) p1 fun z F2 H2 w p2 x2 r2 => k z F2 H2 w M1 p2 (x1.trans (x2.ex2 x1.ok)) r2⟩
def bNil : BFr := fun _ M _ P => P [] M
def bCons (ea : BEx) (er : BFr) : BFr := fun env M X P => ea env M X fun x M1 => er env M1 X fun xs M2 => P (x :: xs) M2
theorem b_nil : BArg W H0 E 0 tNil bNil := ⟨fun _ _ F H M _ _ _ c h k => k [] F H [] M h (.refl c.st) .nil rfl⟩
theorem b_cons {n : Nat} {tr : TA} {er : BFr} (ha : BExp W H0 E ta ea) (hr : BArg W H0 E n tr er) : BArg W H0 E (n + 1) (tCons ta tr) (bCons ea er) :=
  ⟨fun σ env F H M Q P X c q k => ha.run σ env F H M _ _ X c q fun d F1 H1 v M1 p1 x1 r1 => hr.run σ env F1 H1 M1 _ _ X (c.step x1) p1 fun ds F2 H2 vs M2 p2 x2 r2 l2 =>
    k (d :: ds) F2 H2 (v :: vs) M2 p2 (x1.trans x2) (.cons (Rv.sub (x2.sub x1.ok) r1) r2) (congrArg (· + 1) l2)⟩
def bTup (ba : BFr) : BEx := fun env M X P => ba env M X fun ds M' => P (.tup ds) M'
theorem b_tup {n : Nat} {tr : TA} {ba : BFr} (h : BArg W H0 E n tr ba) (hn : n ≤ 100000 := by decide) : BExp W H0 E (tTupF tr) (bTup ba) :=
  ⟨fun σ env F H M Q P X c q k => h.run σ env F H M _ _ X c q fun ds F1 H1 vs M1 p1 x1 r1 l1 => ⟨Nat.le_of_lt (len_size (by rw [r1.length]; omega)), fun a o n tp => by
    have x2 : Ext W F1 H1 _ _ := Ext.new (o := o) x1.ok.ok n
    exact k (.tup ds) _ _ _ M1 p1 (x1.trans (x2.ex2 x1.ok)) (.tup ⟨.inr rfl, o, upd_same, tp⟩ (r1.sub (x2.sub x1.ok.ok)))⟩⟩
theorem b_lst {n : Nat} {tr : TA} {ba : BFr} (h : BArg W H0 E n tr ba) (hn : n ≤ 100000 := by decide) : BFrs W H0 E (tLst tr) ba :=
  ⟨fun σ env F H M Q P X c q k => h.run σ env F H M _ _ X c q fun ds F1 H1 vs M1 p1 x1 r1 l1 => ⟨Nat.le_of_lt (len_size (by rw [r1.length]; omega)), fun a n => by
    have x2 : Ext W F1 H1 _ _ := Ext.lay (o := .lst vs) x1.ok.ok n
    exact k ds _ _ a vs M1 p1 (x1.trans (x2.ex2 x1.ok)) (x1.there n) (fun f => x1.ok.ok.tr a f n) (x1.ok.new n) upd_same (r1.sub (x2.sub x1.ok.ok))⟩⟩
def bTest (ea : BEx) : BTs := fun env M X P => ea env M X fun x M1 => bQ x fun b => P b M1
theorem b_test (h : BExp W H0 E te be) : BTst W H0 E (tTest te) (bTest be) := ⟨fun σ env F H M Q P X c q k => h.run σ env F H M _ _ X c q fun d F1 H1 v M1 p1 x1 r1 => by
  cases r1 <;> first | exact (show False from p1).elim | exact ⟨_, rfl, k _ F1 H1 M1 p1 x1⟩⟩
theorem b_tb (h : BExp W H0 E te be) : BTst W H0 E (tB te) (bTest be) := ⟨fun σ env F H M Q P X c q k => h.run σ env F H M _ _ X c q fun d F1 H1 v M1 p1 x1 r1 => by
  cases r1 <;> first | exact (show False from p1).elim | exact ⟨_, rfl, k _ F1 H1 M1 p1 x1⟩⟩
def bNot (a : BTs) : BTs := fun env M X P => a env M X fun b M1 => P (!b) M1
theorem b_not (h : BTst W H0 E t bt) : BTst W H0 E (tNot t) (bNot bt) := ⟨fun σ env F H M Q P X c q k => h.run σ env F H M _ _ X c q fun b F1 H1 M1 p1 x1 => k _ F1 H1 M1 p1 x1⟩
def bAnd (a c : BTs) : BTs := fun env M X P => a env M X fun b M1 => two b (c env M1 X P) (P false M1)
def bOr (a c : BTs) : BTs := fun env M X P => a env M X fun b M1 => two b (P true M1) (c env M1 X P)
theorem b_and (h : BTst W H0 E t bt) (h2 : BTst W H0 E u bu) : BTst W H0 E (tAnd t u) (bAnd bt bu) := ⟨fun σ env F H M Q P X c q k => h.run σ env F H M _ _ X c q fun b F1 H1 M1 p1 x1 => by
  cases b with
  | true =>
    rw [if_pos rfl]
    exact h2.run σ env F1 H1 M1 _ _ X (c.step x1) p1 fun b F2 H2 M2 p2 x2 => k b F2 H2 M2 p2 (x1.trans x2)
  | false =>
    rw [if_neg Bool.false_ne_true]
    exact k false F1 H1 M1 p1 x1⟩
theorem b_or (h : BTst W H0 E t bt) (h2 : BTst W H0 E u bu) : BTst W H0 E (tOr t u) (bOr bt bu) := ⟨fun σ env F H M Q P X c q k => h.run σ env F H M _ _ X c q fun b F1 H1 M1 p1 x1 => by
  cases b with
  | true =>
    rw [if_pos rfl]
    exact k true F1 H1 M1 p1 x1
  | false =>
    rw [if_neg Bool.false_ne_true]
    exact h2.run σ env F1 H1 M1 _ _ X (c.step x1) p1 fun b F2 H2 M2 p2 x2 => k b F2 H2 M2 p2 (x1.trans x2)⟩
def bAndV (ea eb : BEx) : BEx := fun env M X P => ea env M X fun x M1 => bQ x fun b => two b (eb env M1 X P) (P (.bl false) M1)
def bOrV (ea eb : BEx) : BEx := fun env M X P => ea env M X fun x M1 => bQ x fun b => two b (P (.bl true) M1) (eb env M1 X P)
def bNotV (ea : BEx) : BEx := fun env M X P => ea env M X fun x M1 => bQ x fun b => P (.bl (!b)) M1
theorem b_andV (ha : BExp W H0 E ta ea) (hb : BExp W H0 E tb eb) : BExp W H0 E (tAndV ta tb) (bAndV ea eb) := ⟨fun σ env F H M Q P X c q k => ha.run σ env F H M _ _ X c q fun d F1 H1 v M1 p1 x1 r1 => by
  cases r1 with
  | bl b =>
    refine ⟨b, rfl, ?_⟩
    cases b with
    | true =>
      rw [if_pos rfl]
      exact hb.run σ env F1 H1 M1 _ _ X (c.step x1) p1 fun e F2 H2 w M2 p2 x2 r2 => k e F2 H2 w M2 p2 (x1.trans x2) r2
    | false =>
      rw [if_neg Bool.false_ne_true]
      exact k _ F1 H1 _ M1 p1 x1 (.bl false)
  | _ => exact (show False from p1).elim⟩
def bIf (c : BTs) (ea eb : BEx) : BEx := fun env M X P => c env M X fun b M1 => two b (ea env M1 X P) (eb env M1 X P)
theorem b_if (h : BTst W H0 E t bt) (ha : BExp W H0 E ta ea) (hb : BExp W H0 E tb eb) : BExp W H0 E (tIf t ta tb) (bIf bt ea eb) := ⟨fun σ env F H M Q P X c q k => h.run σ env F H M _ _ X c q fun b F1 H1 M1 p1 x1 => by
  cases b with
  | true =>
    rw [if_pos rfl]
    exact ha.run σ env F1 H1 M1 _ _ X (c.step x1) p1 fun e F2 H2 w M2 p2 x2 r2 => k e F2 H2 w M2 p2 (x1.trans x2) r2
  | false =>
    rw [if_neg Bool.false_ne_true]
    exact hb.run σ env F1 H1 M1 _ _ X (c.step x1) p1 fun e F2 H2 w M2 p2 x2 r2 => k e F2 H2 w M2 p2 (x1.trans x2) r2⟩
end
def bCall (asp : ASp) (ba : BFr) : BEx := fun env M X P => ba env M X fun ds M' => asp ds fun d => P d M'
def bCallF (asp : ASpF) (ba : BFr) : BFr := fun env M X P => ba env M X fun ds M' => asp ds fun d => P d M'
section
variable {K : PySem.W.Frag} {ca : Nat → Addr} {po : Option (Addr × Addr)} {H0 : Hp} {E : XS}
theorem b_call {n : Nat} {E' : XK} {t : TA} {ba : BFr} {asp : ASp} (h : BArg ⟨K, ca, po⟩ H0 E n t ba) : BExp ⟨K, ca, po⟩ H0 E (tCall (toSp K ca asp) [] E' t) (bCall asp ba) :=
  ⟨fun σ env F H M Q P X c q k => h.run σ env F H M _ _ X c q fun ds F1 H1 vs M1 p1 x1 r1 _ => by
    rw [List.append_nil]
    exact ⟨po, F1, ds, _, x1.ok.ok, r1, p1, fun d F' H' v p x r => k d F' H' v M1 p (x1.trans (x.ex2 x1.ok)) r⟩⟩
end
def X0 : XD := fun _ _ _ => False
theorem XOk.zero {W : Wd} {F : Addr → Prop} {H : Hp} {M : Sto} {E : XK} : XOk W F H M E X0 := fun _ _ _ _ _ _ _ _ _ h => h.elim
theorem Cfg.zero {W : Wd} {H0 : Hp} {E : XS} {F : Addr → Prop} {H : Hp} {M : Sto} {σ : L2.St} {env : List Sl} {X : XD} (c : Cfg W H0 E F H M σ env X) : Cfg W H0 E F H M σ env X0 := ⟨c.st, c.m, .zero⟩
def lcB (el : Dat → Sto → (Option Dat → Sto → Prop) → Prop) (P : List Dat → Sto → Prop) : List Dat → List Dat → Sto → Prop
  | [], acc, M => P acc M
  | d :: ds, acc, M => el d M fun o M' => match o with
    | some y => lcB el P ds (acc ++ [y]) M'
    | none => lcB el P ds acc M'
def elB (ag : ATg) (bt : BTs) (eb : BEx) (env : List Sl) : Dat → Sto → (Option Dat → Sto → Prop) → Prop := fun d M P => ag d env fun env2 => bt env2 M X0 fun b M1 => two b (eb env2 M1 X0 fun y M2 => P (some y) M2) (P none M1)
def bLc (bi : BFr) (ag : ATg) (bt : BTs) (eb : BEx) (vs : List Nat) : BFr := fun env M X P => bi env M X fun ds M1 => ds.length ≤ 100000 ∧ lcB (elB ag bt eb (wipeA env vs)) P ds [] M1
def bYes : BTs := fun _ M _ P => P true M
structure BEnds where
  nx : List Sl → Sto → Prop
  rt : Dat → Sto → Prop
  bk : List Sl → Sto → Prop := fun _ _ => False
  ct : List Sl → Sto → Prop := fun _ _ => False
  ex : List Sl → XD := fun _ => X0
abbrev BSt := BEnds → List Sl → Sto → Prop
structure Bse2 (W : Wd) (F0 : Addr → Prop) (H0 : Hp) (M0 : Sto) (F1 : Addr → Prop) (H1 : Hp) (F : Addr → Prop) (H : Hp) (M : Sto) : Prop where
  ex : Ex2 W F0 H0 M0 F H M
  sb : Sub F1 H1 F H
structure EndsOk2 (W : Wd) (E : XS) (F0 : Addr → Prop) (H0 : Hp) (M0 : Sto) (F1 : Addr → Prop) (H1 : Hp) (De : Ends) (Da : BEnds) : Prop where
  nx : ∀ σ env F H M, Bse2 W F0 H0 M0 F1 H1 F H M → Mt2 W H0 F H M σ env → Da.nx env M → De.nx σ H
  rt : ∀ v d F H M, Bse2 W F0 H0 M0 F1 H1 F H M → Rv W F H v d → Da.rt d M → De.rt v H
  bk : ∀ σ env F H M, Bse2 W F0 H0 M0 F1 H1 F H M → Mt2 W H0 F H M σ env → Da.bk env M → De.bk σ H
  ct : ∀ σ env F H M, Bse2 W F0 H0 M0 F1 H1 F H M → Mt2 W H0 F H M σ env → Da.ct env M → De.ct σ H
  ex : ∀ σ env F H M, Bse2 W F0 H0 M0 F1 H1 F H M → Mt2 W H0 F H M σ env → XOk W F H M (E σ) (Da.ex env)
/-- where a statement begins -/
structure BCf (W : Wd) (F0 : Addr → Prop) (H0 : Hp) (M0 : Sto) (F1 : Addr → Prop) (H1 : Hp) (F : Addr → Prop) (H : Hp) (M : Sto) (σ : L2.St) (env : List Sl) : Prop where
  b : Bse2 W F0 H0 M0 F1 H1 F H M
  m : Mt2 W H0 F H M σ env
structure BStm (W : Wd) (E : XS) (ts : TS) (bs : BSt) : Prop where
  run : ∀ (F0 : Addr → Prop) (H0 : Hp) (M0 : Sto) (F1 : Addr → Prop) (H1 : Hp) (De : Ends) (Da : BEnds) (σ : L2.St) (env : List Sl) (F : Addr → Prop) (H : Hp) (M : Sto), BCf W F0 H0 M0 F1 H1 F H M σ env → EndsOk2 W E F0 H0 M0 F1 H1 De Da → bs Da env M → ts De σ H
section
variable {W : Wd} {E : XS} {F0 F1 F F' : Addr → Prop} {H0 H1 H H' : Hp} {M0 M M' : Sto} {σ : L2.St} {env : List Sl}
theorem BCf.cfg {De : Ends} {Da : BEnds} (c : BCf W F0 H0 M0 F1 H1 F H M σ env) (k : EndsOk2 W E F0 H0 M0 F1 H1 De Da) : Cfg W H0 E F H M σ env (Da.ex env) := ⟨c.b.ex.ok, c.m, k.ex σ env F H M c.b c.m⟩
theorem BCf.step (c : BCf W F0 H0 M0 F1 H1 F H M σ env) (x : Ex2 W F H M F' H' M') : BCf W F0 H0 M0 F1 H1 F' H' M' σ env := ⟨⟨c.b.ex.trans x, c.b.sb.trans (x.sub c.b.ex.ok)⟩, c.m.ex2 c.b.ex.ok x⟩
theorem EndsOk2.mono {De : Ends} {Da : BEnds} (s : Sub F1 H1 F H) (k : EndsOk2 W E F0 H0 M0 F1 H1 De Da) : EndsOk2 W E F0 H0 M0 F H De Da :=
  ⟨fun σ env F H M b => k.nx σ env F H M ⟨b.ex, s.trans b.sb⟩, fun v d F H M b => k.rt v d F H M ⟨b.ex, s.trans b.sb⟩, fun σ env F H M b => k.bk σ env F H M ⟨b.ex, s.trans b.sb⟩, fun σ env F H M b => k.ct σ env F H M ⟨b.ex, s.trans b.sb⟩, fun σ env F H M b => k.ex σ env F H M ⟨b.ex, s.trans b.sb⟩⟩
end
def zNext : BSt := fun D env M => D.nx env M
def zSeq (a b : BSt) : BSt := fun D env M => a { D with nx := b D } env M
def zCut (a b : BSt) : BSt := fun D env M => ∃ Mid : List Sl → Sto → Prop, a { D with nx := Mid } env M ∧ ∀ env' M', Mid env' M' → b D env' M'
def zIf (c : BTs) (a b : BSt) : BSt := fun D env M => c env M (D.ex env) fun t M1 => two t (a D env M1) (b D env M1)
def zAsg (ea : BEx) (g : ATg) : BSt := fun D env M => ea env M (D.ex env) fun d M1 => g d env fun env2 => D.nx env2 M1
def zSetO (i : Nat) (af : BFr) : BSt := fun D env M => af env M (D.ex env) fun ds M1 => D.nx (env.set i (.o ds)) M1
def zRet (ea : BEx) : BSt := fun D env M => ea env M (D.ex env) D.rt
def zRetN : BSt := fun D _ M => D.rt .non M
def zDrop (ea : BEx) : BSt := fun D env M => ea env M (D.ex env) fun _ M1 => D.nx env M1
def zPar (i j : Nat) (ba : BFr) : BSt := fun D env M => ba env M (D.ex env) fun ds M1 => match ds with
  | [x, y] => D.nx ((env.set i (.d x)).set j (.d y)) M1
  | _ => False
def zApp (i : Nat) (ea : BEx) : BSt := fun D env M => oQ2 (dAt env i) fun xs => xs.length < 100000 ∧ ea env M (D.ex env) fun d M1 => D.nx (env.set i (.o (xs ++ [d]))) M1
def zFz (i : Nat) (a : BSt) : BSt := fun D env M => oQ2 (dAt env i) fun xs => a D (env.set i (.d (.lst xs))) M
def zAug (i : Nat) (ea : BEx) (f : Dat → Dat → (Dat → Prop) → Prop) : BSt := fun D env M => dQ (dAt env i) fun x => ea env M (D.ex env) fun y M1 => f x y fun z => D.nx (env.set i (.d z)) M1
def forB (g : ATg) (b : BSt) (D : BEnds) : List Dat → List Sl → Sto → Prop
  | [], env, M => D.nx env M
  | d :: ds, env, M => g d env fun env2 => b { D with nx := forB g b D ds, ct := forB g b D ds, bk := D.nx } env2 M
def zFor (bi : BFr) (g : ATg) (b : BSt) : BSt := fun D env M => bi env M (D.ex env) fun ds M1 => forB g b D ds env M1
/-- what a list's cell holds -/
def cQ (o : Option Ce) (P : List Dat → Prop) : Prop := match o with
  | some (.lst xs) => P xs
  | _ => False
def ceQ : Dat → (Addr → Prop) → Prop
  | .cell a, P => P a
  | _, _ => False
def inQ : Dat → (Int → Prop) → Prop
  | .int j, P => P j
  | _, _ => False
/-- x.append(e), x a cell -/
def zAppC (eo ea : BEx) : BSt := fun D env M => eo env M (D.ex env) fun x M1 => ceQ x fun a => cQ (M1 a) fun _ => ea env M1 (D.ex env) fun d M2 => cQ (M2 a) fun ys => ys.length < 100000 ∧ D.nx env (M2.put a (some (.lst (ys ++ [d]))))
/-- x[i] = e, x a cell -/
def zPutC (ev eo ei : BEx) : BSt := fun D env M => ev env M (D.ex env) fun d M1 => eo env M1 (D.ex env) fun x M2 => ei env M2 (D.ex env) fun i M3 => ceQ x fun a => inQ i fun j => cQ (M3 a) fun ys => ∃ k, ixN ys.length j = some k ∧ D.nx env (M3.put a (some (.lst (ys.set k d))))
/-- x[i] = e, x a list of the def's own -/
def zPutO (s : Nat) (ev ei : BEx) : BSt := fun D env M => oQ2 (dAt env s) fun ys => ev env M (D.ex env) fun d M1 => ei env M1 (D.ex env) fun i M2 => inQ i fun j => ∃ k, ixN ys.length j = some k ∧ D.nx (env.set s (.o (ys.set k d))) M2
section
variable {W : Wd} {E : XS} {ts tu : TS} {bs bu : BSt}
theorem z_next : BStm W E tNext zNext := ⟨fun F0 H0 M0 F1 H1 De Da σ env F H M c k h => k.nx σ env F H M c.b c.m h⟩
theorem z_seq (h1 : BStm W E ts bs) (h2 : BStm W E tu bu) : BStm W E (tSeq ts tu) (zSeq bs bu) := ⟨fun F0 H0 M0 F1 H1 De Da σ env F H M c k h =>
  h1.run F0 H0 M0 F1 H1 { De with nx := tu De } { Da with nx := bu Da } σ env F H M c ⟨fun σ env F H M b m h => h2.run F0 H0 M0 F1 H1 De Da σ env F H M ⟨b, m⟩ k h, k.rt, k.bk, k.ct, k.ex⟩ h⟩
theorem z_cut (h1 : BStm W E ts bs) (h2 : BStm W E tu bu) : BStm W E (C8.tCut ts tu) (zCut bs bu) := ⟨fun F0 H0 M0 F1 H1 De Da σ env F H M c k ⟨Mid, h, q⟩ =>
  ⟨fun σ' H' => ∃ env' F' M', BCf W F0 H0 M0 F1 H1 F' H' M' σ' env' ∧ Mid env' M', h1.run F0 H0 M0 F1 H1 _ { Da with nx := Mid } σ env F H M c ⟨fun σ env F H M b m h => ⟨env, F, M, ⟨b, m⟩, h⟩, k.rt, k.bk, k.ct, k.ex⟩ h,
    fun σ' H' ⟨env', F', M', c', hm⟩ => h2.run F0 H0 M0 F1 H1 De Da σ' env' F' H' M' c' k (q env' M' hm)⟩⟩
theorem z_if {t : TT} {cb : BTs} (ht : ∀ H0, BTst W H0 E t cb) (h1 : BStm W E ts bs) (h2 : BStm W E tu bu) : BStm W E (tIfS t ts tu) (zIf cb bs bu) := ⟨fun F0 H0 M0 F1 H1 De Da σ env F H M c k h =>
  (ht H0).run σ env F H M _ _ _ (c.cfg k) h fun t F' H' M' p x => by
    cases t with
    | true =>
      rw [if_pos rfl]
      exact h1.run F0 H0 M0 F1 H1 De Da σ env F' H' M' (c.step x) k p
    | false =>
      rw [if_neg Bool.false_ne_true]
      exact h2.run F0 H0 M0 F1 H1 De Da σ env F' H' M' (c.step x) k p⟩
theorem z_asg {te : TE} {ea : BEx} {g : TG} {ag : ATg} {vs : List Nat} (he : ∀ H0, BExp W H0 E te ea) (hg : ∀ H0, ATgt W H0 vs g ag) : BStm W E (tAsg te g) (zAsg ea ag) := ⟨fun F0 H0 M0 F1 H1 De Da σ env F H M c k h =>
  (he H0).run σ env F H M _ _ _ (c.cfg k) h fun d F' H' v M' p x r => (hg _).run v d σ env F' H' _ _ x.ok.ok (c.step x).m r p fun env' σ' p' m' _ => k.nx σ' env' F' H' M' (c.step x).b m' p'⟩
theorem z_set {te : TE} {ea : BEx} {i : Nat} (he : ∀ H0, BExp W H0 E te ea) : BStm W E (tAsg te (gName i)) (zAsg ea (gA i)) := z_asg (vs := [i]) he fun _ => g_name List.mem_cons_self
theorem z_ret {te : TE} {ea : BEx} (he : ∀ H0, BExp W H0 E te ea) : BStm W E (tRet te) (zRet ea) := ⟨fun F0 H0 M0 F1 H1 De Da σ env F H M c k h =>
  (he H0).run σ env F H M _ _ _ (c.cfg k) h fun d F' H' v M' p x r => k.rt v d F' H' M' (c.step x).b r p⟩
theorem z_drop {te : TE} {ea : BEx} (he : ∀ H0, BExp W H0 E te ea) : BStm W E (tDrop te) (zDrop ea) := ⟨fun F0 H0 M0 F1 H1 De Da σ env F H M c k h =>
  (he H0).run σ env F H M _ _ _ (c.cfg k) h fun d F' H' v M' p x r => k.nx σ env F' H' M' (c.step x).b (c.step x).m p⟩
theorem z_for {wi : TI} {bi : BFr} {g : TG} {ag : ATg} {vs : List Nat} (hi : ∀ H0, BIter W H0 E wi bi) (hg : ∀ H0, ATgt W H0 vs g ag) (hb : BStm W E ts bs) : BStm W E (tFor wi g ts) (zFor bi ag bs) := ⟨fun F0 H0 M0 F1 H1 De Da σ env F H M c k h =>
  (hi H0).run σ env F H M _ _ _ (c.cfg k) h fun ds Fa Ha J Ma p1 x1 itk => by
  have c1 := c.step x1
  refine ⟨fun i n σ' H' => n + i = ds.length ∧ ∃ env' F' M', BCf W F0 H0 M0 F1 H1 F' H' M' σ' env' ∧ Sub Fa Ha F' H' ∧ forB ag bs Da (ds.drop i) env' M', ⟨ds.length, rfl, env, Fa, Ma, c1, Sub.refl Fa Ha, p1⟩, ?_⟩
  rintro i n σ2 H2 ⟨hn, env2, F2, M2, c2, s2, p2⟩
  by_cases hlt : i < ds.length
  · have hd : ds[i]? = some ds[i] := List.getElem?_eq_getElem hlt
    obtain ⟨go, yl⟩ := itk.it F2 H2 c2.b.ex.ok.ok s2 i _ hd
    rw [List.drop_eq_getElem_cons hlt] at p2
    refine .inr ⟨go, fun σ' H' => ∃ env' F' M', BCf W F0 H0 M0 F1 H1 F' H' M' σ' env' ∧ Sub Fa Ha F' H' ∧ forB ag bs Da (ds.drop (i + 1)) env' M',
      fun σ' H' ⟨env', F', M', rest⟩ => ⟨n - 1, by omega, by omega, env', F', M', rest⟩, fun x H3 y => ?_⟩
    obtain ⟨F3, x3, rx⟩ := yl x H3 y
    have x3 := x3.ex2 c2.b.ex.ok
    have c3 := c2.step x3
    have s3 := s2.trans (x3.sub c2.b.ex.ok)
    refine (hg _).run x _ σ2 env2 F3 H3 _ _ x3.ok.ok c3.m rx p2 fun env4 σ4 p4 m4 _ => ?_
    exact hb.run F0 H0 M0 F3 H3 _ { Da with nx := forB ag bs Da (ds.drop (i + 1)), ct := forB ag bs Da (ds.drop (i + 1)), bk := Da.nx } σ4 env4 F3 H3 M2 ⟨⟨c3.b.ex, Sub.refl _ _⟩, m4⟩
      ⟨fun σ env F H M b m h => ⟨env, F, M, ⟨⟨b.ex, c3.b.sb.trans b.sb⟩, m⟩, s3.trans b.sb, h⟩, fun v d F H M b => k.rt v d F H M ⟨b.ex, c3.b.sb.trans b.sb⟩, fun σ env F H M b => k.nx σ env F H M ⟨b.ex, c3.b.sb.trans b.sb⟩,
        fun σ env F H M b m h => ⟨env, F, M, ⟨⟨b.ex, c3.b.sb.trans b.sb⟩, m⟩, s3.trans b.sb, h⟩, fun σ env F H M b => k.ex σ env F H M ⟨b.ex, c3.b.sb.trans b.sb⟩⟩ p4
  · have e : i = ds.length := by omega
    subst e
    rw [List.drop_length] at p2
    exact .inl ⟨itk.done F2 H2 c2.b.ex.ok.ok s2, k.nx σ2 env2 F2 H2 M2 c2.b c2.m p2⟩⟩
theorem cQ_at {o : Option Ce} {P : List Dat → Prop} (h : cQ o P) : ∃ xs, o = some (.lst xs) ∧ P xs := by
  cases o with
  | none => exact h.elim
  | some c =>
    cases c with
    | lst xs => exact ⟨xs, rfl, h⟩
    | obj _ _ => exact h.elim
    | dK _ => exact h.elim
    | dT _ _ => exact h.elim
    | xd _ _ => exact h.elim
theorem rv_cell {F : Addr → Prop} {H : Hp} {v : V} {a : Addr} (r : Rv W F H v (.cell a)) : v = .ref a := by
  cases r
  rfl
theorem z_appC {to te : TE} {eo ea : BEx} (ho : ∀ H0, BExp W H0 E to eo) (he : ∀ H0, BExp W H0 E te ea) : BStm W E (tDrop (tBM W.K "list" rAppend to (tCons te tNil))) (zAppC eo ea) := ⟨fun F0 H0 M0 F1 H1 De Da σ env F H M c k h => by
  refine (ho H0).run σ env F H M _ _ _ (c.cfg k) h fun d Fa Ha v Ma p x rv => ?_
  cases d with
  | cell a =>
    have e := rv_cell rv
    subst e
    obtain ⟨xs, hM, p⟩ := cQ_at p
    obtain ⟨nf, np, vs, hA, r⟩ := x.ok.at_ a _ hM
    refine ⟨.inl ⟨rfl, vs, SqL.of hA⟩, ?_⟩
    have c1 := c.step x
    refine (he H0).run σ env Fa Ha Ma _ _ _ (c1.cfg k) p fun d F' H' u M' p2 x2 ru => ?_
    obtain ⟨ys, hM2, hl, p2⟩ := cQ_at p2
    obtain ⟨nf2, np2, ws, hA2, r2⟩ := x2.ok.at_ a _ hM2
    refine ⟨a, ws, u, rfl, rfl, hA2, len_size (by rw [r2.length]; omega), ?_⟩
    have sb : Sub F' H' F' (upd H' a (.lst (ws ++ [u]))) := fun c f => ⟨f, upd_ne (fun z => nf2 (by rw [← z]; exact f))⟩
    have x3 := x2.ok.upd_cell (o := .lst (ws ++ [u])) (c1 := .lst (ys ++ [d])) hM2 ⟨_, upd_same, (r2.append (.cons (show Rv W F' H' u d from ru) .nil)).sub sb⟩
    have c3 := (c1.step x2).step x3
    exact k.nx _ _ _ _ _ c3.b c3.m p2
  | _ => exact (show False from p).elim⟩
end
abbrev BSp := List Dat → Sto → XD → (Dat → Sto → Prop) → Prop
def toSp2 (K : PySem.W.Frag) (ca : Nat → Addr) (bsp : BSp) : Sp := fun vs H Q E => ∃ (po : Option (Addr × Addr)) (F : Addr → Prop) (M : Sto) (ds : List Dat) (P : Dat → Sto → Prop) (X : XD), SoOk ⟨K, ca, po⟩ F H M ∧ RvAll ⟨K, ca, po⟩ F H vs ds ∧ bsp ds M X P ∧ XOk ⟨K, ca, po⟩ F H M E X ∧
  ∀ d F' H' M' v, P d M' → Ex2 ⟨K, ca, po⟩ F H M F' H' M' → Rv ⟨K, ca, po⟩ F' H' v d → Q v H'
/-- a call of a def that raises nothing here -/
def bCall2 (bsp : BSp) (ba : BFr) : BEx := fun env M X P => ba env M X fun ds M' => bsp ds M' X0 P
section
variable {K : PySem.W.Frag} {ca : Nat → Addr} {po : Option (Addr × Addr)} {H0 : Hp} {E : XS}
theorem b_call2 {n : Nat} {E' : XK} {t : TA} {ba : BFr} {bsp : BSp} (h : BArg ⟨K, ca, po⟩ H0 E n t ba) : BExp ⟨K, ca, po⟩ H0 E (tCall (toSp2 K ca bsp) [] E' t) (bCall2 bsp ba) :=
  ⟨fun σ env F H M Q P X c q k => h.run σ env F H M _ _ X c q fun ds F1 H1 vs M1 p1 x1 r1 _ => by
    rw [List.append_nil]
    exact ⟨po, F1, M1, ds, P, X0, x1.ok, r1, p1, .zero, fun d F' H' M' v p x r => k d F' H' v M' p (x1.trans x) r⟩⟩
end
theorem mt_anyB {W : Wd} {H0 H1 : Hp} {F : Addr → Prop} {H : Hp} {σ : L2.St} {env : List Sl} (no : ∀ (i : Nat) (xs : List Dat), env[i]? ≠ some (.o xs)) (m : Mt W H0 F H σ env) : Mt W H1 F H σ env :=
  ⟨m.ln, fun i s e => by
    obtain ⟨ov, e1, r⟩ := m.at_ i s e
    refine ⟨ov, e1, ?_⟩
    cases s with
    | u => trivial
    | d x => exact r
    | o xs => exact absurd e (no i xs), fun i j xs ys a e1 => absurd e1 (no i xs)⟩
theorem mt_start2 {W : Wd} {F : Addr → Prop} {H : Hp} {M : Sto} {N : List Str} {vs : List V} {ds : List Dat} (r : RvAll W F H vs ds) (hl : ds.length ≤ N.length) : Mt2 W H F H M (L2.start N vs) (ds.map Sl.d ++ List.replicate (N.length - ds.length) .u) :=
  mt_anyB (fun i xs e => by
    rcases List.mem_append.mp (List.mem_of_getElem? e) with h | h
    · obtain ⟨_, _, z⟩ := List.mem_map.mp h
      cases z
    · cases (List.mem_replicate.mp h).2) (mt_start r hl)
theorem sp_len2 {K : PySem.W.Frag} {ca : Nat → Addr} {bsp : BSp} {n : Nat} (hn : ∀ ds M X P, bsp ds M X P → ds.length = n) {vs : List V} {H : Hp} {Q : VK} {E : XK} (h : toSp2 K ca bsp vs H Q E) : vs.length = n := by
  obtain ⟨po, F, M, ds, P, X, ok, r, a, xo, k⟩ := h
  rw [r.length]
  exact hn ds M X P a
/-- a def over data and cells -/
theorem fn_run2 {K : PySem.W.Frag} {ca : Nat → Addr} {bsp : BSp} {N : List Str} {vs : List V} {H : Hp} {Q : VK} {E : XK} {ts : TS} {bs : BSt} (h : toSp2 K ca bsp vs H Q E) (hs : ∀ po, BStm ⟨K, ca, po⟩ (fun _ => E) ts bs) (hl : ∀ ds M X P, bsp ds M X P → ds.length ≤ N.length)
    (hb : ∀ ds M X P, bsp ds M X P → bs { nx := fun _ M => P .non M, rt := P, ex := fun _ => X } (ds.map Sl.d ++ List.replicate (N.length - ds.length) .u) M) : ts { nx := fun _ H' => Q .non H', rt := Q } (L2.start N vs) H := by
  obtain ⟨po, F, M, ds, P, X, ok, r, a, xo, k⟩ := h
  exact (hs po).run F H M F H _ { nx := fun _ M => P .non M, rt := P, ex := fun _ => X } _ _ F H M ⟨⟨.refl ok, Sub.refl F H⟩, mt_start2 r (hl ds M X P a)⟩
    ⟨fun σ env F' H' M' b m p => k .non F' H' M' .non p b.ex .non, fun v d F' H' M' b r p => k d F' H' M' v p b.ex r, fun _ _ _ _ _ _ _ p => p.elim, fun _ _ _ _ _ _ _ p => p.elim, fun _ _ _ _ _ b _ => xo.step b.ex⟩ (hb ds M X P a)
/-- a promise over data alone, kept by a def that has cells within -/
theorem fn_run1 {K : PySem.W.Frag} {ca : Nat → Addr} {asp : ASp} {N : List Str} {vs : List V} {H : Hp} {Q : VK} {E : XK} {ts : TS} {bs : BSt} (h : toSp K ca asp vs H Q E) (hs : ∀ po, BStm ⟨K, ca, po⟩ (fun _ => E) ts bs) (hl : ∀ ds P, asp ds P → ds.length ≤ N.length)
    (hb : ∀ ds P, asp ds P → bs { nx := fun _ _ => P .non, rt := fun d _ => P d } (ds.map Sl.d ++ List.replicate (N.length - ds.length) .u) (fun _ => none)) : ts { nx := fun _ H' => Q .non H', rt := Q } (L2.start N vs) H := by
  obtain ⟨po, F, ds, P, ok, r, a, k⟩ := h
  have st : SoOk ⟨K, ca, po⟩ F H (fun _ => none) := ⟨ok, fun _ _ e => by cases e⟩
  have down : ∀ {F' : Addr → Prop} {H' : Hp} {M' : Sto}, Ex2 ⟨K, ca, po⟩ F H (fun _ => none) F' H' M' → Ext ⟨K, ca, po⟩ F H F' H' := fun {F' H' M'} x => ⟨x.up, fun a f => by
    rcases x.dn a f with z | z | z
    · exact .inl z
    · exact .inr z
    · exact absurd rfl z, fun a o e n => x.kp a o e n rfl, x.ok.ok⟩
  exact (hs po).run F H _ F H _ { nx := fun _ _ => P .non, rt := fun d _ => P d } _ _ F H _ ⟨⟨.refl st, Sub.refl F H⟩, mt_start2 r (hl ds P a)⟩
    ⟨fun σ env F' H' M' b m p => k .non F' H' .non p (down b.ex) .non, fun v d F' H' M' b r p => k d F' H' v p (down b.ex) r, fun _ _ _ _ _ _ _ p => p.elim, fun _ _ _ _ _ _ _ p => p.elim, fun _ _ _ _ _ _ _ => .zero⟩ (hb ds P a)
def bFrz (be : BEx) : BEx := fun env M X P => be env M X fun x M1 => ceQ x fun a => cQ (M1 a) fun xs => P (.lst xs) (M1.put a none)
theorem drf_l {M : Sto} {xs : List Dat} : drf M (.lst xs) = .lst xs := rfl
theorem drf_t {M : Sto} {xs : List Dat} : drf M (.tup xs) = .tup xs := rfl
theorem drf_i {M : Sto} {i : Int} : drf M (.int i) = .int i := rfl
theorem drf_s {M : Sto} {i : Str} : drf M (.str i) = .str i := rfl
theorem drf_b {M : Sto} {i : Bool} : drf M (.bl i) = .bl i := rfl
theorem drf_n {M : Sto} : drf M .non = .non := rfl
theorem drf_o {M : Sto} {k : Nat} {ds : List Dat} : drf M (.obj k ds) = .obj k ds := rfl
theorem drf_c {M : Sto} {a : Addr} : drf M (.cell a) = drc a (M a) := rfl
theorem drc_l {a : Addr} {xs : List Dat} : drc a (some (.lst xs)) = .lst xs := rfl
theorem ceQ_c {a : Addr} {P : Addr → Prop} : ceQ (.cell a) P = P a := rfl
theorem inQ_i {j : Int} {P : Int → Prop} : inQ (.int j) P = P j := rfl
theorem cQ_l {xs : List Dat} {P : List Dat → Prop} : cQ (some (.lst xs)) P = P xs := rfl
theorem forB_ran {g : ATg} {b : BSt} {D : BEnds} {n : Nat} {lo : Int} {env : List Sl} {M : Sto} (W : Nat → List Sl → Sto → Prop) (h0 : W 0 env M)
    (hs : ∀ i env M, i < n → W i env M → ∀ N : List Sl → Sto → Prop, (∀ env' M', W (i + 1) env' M' → N env' M') → g (.int (lo + (i : Int))) env fun env2 => b { D with nx := N, ct := N, bk := D.nx } env2 M)
    (hd : ∀ env M, W n env M → D.nx env M) : forB g b D ((List.range n).map fun (i : Nat) => Dat.int (lo + (i : Int))) env M := by
  have gen : ∀ (m k : Nat) env M, k + m = n → W k env M → forB g b D ((List.range' k m).map fun (i : Nat) => Dat.int (lo + (i : Int))) env M := by
    intro m
    induction m with
    | zero =>
      intro k env M e w
      have e : k = n := by omega
      subst e
      exact hd env M w
    | succ m ih =>
      intro k env M e w
      exact hs k env M (by omega) w _ fun env' M' w' => ih (k + 1) env' M' (by omega) w'
  rw [List.range_eq_range']
  exact gen n 0 env M (by omega) h0
/-- what comes after a statement, by a name -/
theorem zseqG {a b : BSt} {D : BEnds} {env : List Sl} {M : Sto} (h : ∀ N : List Sl → Sto → Prop, N = b D → a { D with nx := N } env M) : zSeq a b D env M := h _ rfl
theorem Mt.setU {W : Wd} {H0 : Hp} {F : Addr → Prop} {H : Hp} {σ : L2.St} {env : List Sl} (m : Mt W H0 F H σ env) (i : Nat) : Mt W H0 F H (σ.set i none) (env.set i .u) := by
  have ne : ∀ {j : Nat} {xs : List Dat}, (env.set i .u)[j]? = some (.o xs) → j ≠ i := fun {j xs} e z => by
    subst z
    have hl : j < env.length := by
      have := (List.getElem?_eq_some_iff.mp e).1
      rwa [List.length_set] at this
    rw [List.getElem?_set_self hl] at e
    cases e
  refine ⟨by rw [List.length_set, List.length_set, m.ln], fun j s e => ?_, fun j k xs ys a e1 e2 e3 e4 => ?_⟩
  · by_cases h : j = i
    · subst h
      have hl : j < env.length := by
        have := (List.getElem?_eq_some_iff.mp e).1
        rwa [List.length_set] at this
      rw [List.getElem?_set_self hl] at e
      cases e
      exact ⟨none, List.getElem?_set_self (by rw [← m.ln]; exact hl), trivial⟩
    · rw [List.getElem?_set_ne (Ne.symm h)] at e ⊢
      exact m.at_ j s e
  · have n1 := ne e1
    have n2 := ne e2
    rw [List.getElem?_set_ne (Ne.symm n1)] at e1 e3
    rw [List.getElem?_set_ne (Ne.symm n2)] at e2 e4
    exact m.own j k xs ys a e1 e2 e3 e4
/-- a call that may raise -/
def bCallX (bsp : BSp) (ba : BFr) : BEx := fun env M X P => ba env M X fun ds M' => bsp ds M' X P
section
variable {K : PySem.W.Frag} {ca : Nat → Addr} {po : Option (Addr × Addr)} {H0 : Hp} {E : XS}
theorem b_callX {n : Nat} {t : TA} {ba : BFr} {bsp : BSp} (h : BArg ⟨K, ca, po⟩ H0 E n t ba) : BExp ⟨K, ca, po⟩ H0 E (tCallS (toSp2 K ca bsp) E t) (bCallX bsp ba) :=
  ⟨fun σ env F H M Q P X c q k => h.run σ env F H M _ _ X c q fun ds F1 H1 vs M1 p1 x1 r1 _ =>
    ⟨po, F1, M1, ds, P, X, x1.ok, r1, p1, (c.step x1).x, fun d F' H' M' v p x r => k d F' H' v M' p (x1.trans x) r⟩⟩
end
def zRaise (k : Nat) (ba : BFr) : BSt := fun D env M => ba env M (D.ex env) fun ds M1 => D.ex env k ds M1
section
variable {W : Wd} {E : XS}
/-- try: body; except .. as slot i: suite; ks the classes that are caught, all of one attribute -/
def zTryX (i : Nat) (ks : List Nat) (bs : Nat → Addr → Addr → BSt) (D : BEnds) (env : List Sl) : XD := fun k ds M =>
  k ∈ ks ∧ ∀ a dd, M a = none → M dd = none → bs k a dd { D with nx := fun e m => D.nx (e.set i .u) m, bk := fun e m => D.bk (e.set i .u) m, ct := fun e m => D.ct (e.set i .u) m } (env.set i (.d (.cell a))) (M.put dd (some (.xd k ds)))
def zTry (i : Nat) (ks : List Nat) (bb : BSt) (bs : Nat → Addr → Addr → BSt) : BSt := fun D env M => bb { D with ex := zTryX i ks bs D } env M
theorem z_try {i : Nat} {ks : List Nat} {cv : Value} {tb : WX → TS} {ts : Addr → Value → Option Addr → TS} {bb : BSt} {bs : Nat → Addr → Addr → BSt} {Wout : WX} (hks : ∀ k ∈ ks, (∃ f, xcN k = some f) ∧ PySem.W.exmOne W.K (.ref (W.ca k)) cv = some true)
    (hb : ∀ Wx : WX, BStm W (fun σ cls d H => Wx cls d σ H) (tb Wx) bb) (hs : ∀ k ∈ ks, ∀ a dd, BStm W E (ts a (.ref (W.ca k)) (some dd)) (bs k a dd)) : BStm W E (fun D σ H => tb (wAs W.K cv i ts Wout D) D σ H) (zTry i ks bb bs) := ⟨fun F0 H0 M0 F1 H1 De Da σ env F H M c k h => by
  refine (hb (wAs W.K cv i ts Wout De)).run F0 H0 M0 F1 H1 De { Da with ex := zTryX i ks bs Da } σ env F H M c ⟨k.nx, k.rt, k.bk, k.ct, fun σ env F H M b m kx ds d F' H' M' x xa nw hX => ?_⟩ h
  obtain ⟨hk, hX⟩ := hX
  obtain ⟨⟨f, hf⟩, he⟩ := hks kx hk
  unfold XAt at xa
  rw [hf] at xa
  obtain ⟨dd, v, y, rfl, hd, rfl, rv, nf, md, npd⟩ := xa
  refine ⟨true, he, fun _ a ha => ?_, fun z => by cases z⟩
  have x' : Ex2 W F H M F' H' (M'.put dd (some (.xd kx [y]))) := by
    refine ⟨x.up, x.dn, x.kp, x.al, fun b hb => ?_, x.ok.new_cell nf md npd ⟨f, v, y, hf, hd, rfl, rv⟩⟩
    by_cases z : b = dd
    · rw [z]
      exact .inr (nw dd rfl)
    · rw [Sto.put_n z] at hb
      exact x.md b hb
  exact (hs kx hk a dd).run F0 H0 M0 F1 H1 _ { Da with nx := fun e m => Da.nx (e.set i .u) m, bk := fun e m => Da.bk (e.set i .u) m, ct := fun e m => Da.ct (e.set i .u) m } (σ.set i (some (.ref a))) (env.set i (.d (.cell a))) F' H' _ ⟨⟨b.ex.trans x', b.sb.trans (x'.sub b.ex.ok)⟩, (m.ex2 b.ex.ok x').setD i (.cell a)⟩
    ⟨fun σ env F H M b m h => k.nx _ _ F H M b (m.setU i) h, k.rt, fun σ env F H M b m h => k.bk _ _ F H M b (m.setU i) h, fun σ env F H M b m h => k.ct _ _ F H M b (m.setU i) h, k.ex⟩ (hX a dd (x.ok.new ha) md)⟩
/-- e.f in the suite, e in slot i, the class kk's attribute -/
def xQ (o : Option Ce) (kk : Nat) (P : Dat → Prop) : Prop := match o with
  | some (.xd k [x]) => k = kk ∧ P x
  | _ => False
def isC : Dat → Addr → Prop
  | .cell b, a => b = a
  | _, _ => False
def bWhat (i : Nat) (a dd : Addr) (k kk : Nat) : BEx := fun env M _ P => k = kk ∧ dQ (dAt env i) fun x => isC x a ∧ xQ (M dd) kk fun y => P y M
theorem b_what {H0 : Hp} {i k kk : Nat} {a dd : Addr} {f : Str} (hf : xcN kk = some f) : BExp W H0 E (tXf a (.ref (W.ca k)) (some dd) (W.ca kk) f (tVar i)) (bWhat i a dd k kk) := ⟨fun σ env F H M Q P X c ⟨hk, h⟩ q => by
  subst hk
  cases e : dAt env i with
  | d x =>
    rw [e] at h
    obtain ⟨hx, h⟩ := h
    obtain ⟨_, e1, v, rfl, r⟩ := c.m.at_ i _ (dAt_get e (fun z => by cases z))
    cases x with
    | cell b =>
      have hx : b = a := hx
      subst hx
      have ev := rv_cell r
      subst ev
      refine ⟨_, e1, rfl, rfl, dd, ?_⟩
      cases hM : M dd with
      | none =>
        rw [hM] at h
        exact h.elim
      | some ce =>
        rw [hM] at h
        cases ce with
        | xd k' ds =>
          match ds, h with
          | [y], ⟨hk, p⟩ =>
            subst hk
            obtain ⟨_, _, f', v, z, hf', hA, ez, rz⟩ := c.st.at_ dd _ hM
            rw [hf] at hf'
            cases hf'
            cases ez
            exact ⟨_, v, rfl, hA, by simp [List.lookup], q y F H v M p (.refl c.st) rz⟩
          | [], h => exact h.elim
          | _ :: _ :: _, h => exact h.elim
        | _ => exact h.elim
    | _ => exact hx.elim
  | u =>
    rw [e] at h
    exact h.elim
  | o xs =>
    rw [e] at h
    exact h.elim⟩
end
/-- C(..) where __init__ may raise -/
def tMakeS (C : Addr) (sp : Sp) (E : L2.St → XK) (t : TA) : TE := fun σ H Q => t σ H fun vs H1 => ∀ x dx, H1 x = none → H1 dx = none → dx ≠ x → sp (.ref x :: vs) (upd (upd H1 dx (.own x)) x (.ins C dx [])) (fun v H2 => v = .non ∧ Q (.ref x) H2) (E σ)
/-- o.m(..) where m may raise -/
def tMethS (C : Addr) (m : Str) (sp : Sp) (E : L2.St → XK) (ta : TE) (t : TA) : TE := fun σ H Q => ta σ H fun x H1 => ∃ a dx fs, x = .ref a ∧ H1 a = some (.ins C dx fs) ∧ fs.lookup m = none ∧ t σ H1 fun vs H2 => sp (x :: vs) H2 Q (E σ)
section
variable {X : Cx} {CX : CXT} {k : Nat} {f C : Addr} {fd : FuncData} {ps : List Str} {sp : Sp} {E : L2.St → XK} {x m : Str} {p pos apos : Pos} {e o : Expr} {es : List Expr} {ta : TE} {t : TA}
theorem run_makeS {pins : List (Addr × Obj)} {σ : L2.St} {H : Hp} {s : Shared} {Q : VK} {us : List Value} {vs : List V} (M : Mk X.K C f) (F : FnOk X.prog X.w X.K X.mg X.base CX k f fd ps sp) (hr : Room (k + 1) X.A) (hb : Binds X.K fd ps []) (hx : PassesAt CX X σ (E σ)) (I : Inv X pins σ H s) (r : Vals vs us)
    (h : ∀ x dx, H x = none → H dx = none → dx ≠ x → sp (.ref x :: vs) (upd (upd H dx (.own x)) x (.ins C dx [])) (fun v H2 => v = .non ∧ Q (.ref x) H2) (E σ)) : wpAny (model X.prog X.w) X.A (call (.ref C) us) (EP X pins σ Q) X.xe s := by
  have hq := h (s.heap.objs.size + 1) s.heap.objs.size (I.hok.fresh (Nat.le_succ _)) (I.hok.fresh (Nat.le_refl _)) (Nat.ne_of_lt (Nat.lt_succ_self _)); have J := Inv.made (C := C) I
  have rr : Vals (V.ref (s.heap.objs.size + 1) :: vs) (Value.ref (s.heap.objs.size + 1) :: us) := .cons rfl r
  have hn : (Value.ref (s.heap.objs.size + 1) :: us).length = ps.length := by rw [← rr.length]; exact F.len _ _ _ _ hq
  have bb := hb _ (Value.ref (s.heap.objs.size + 1) :: us) J.kIn (by rw [List.append_nil]; exact hn)
  rw [List.append_nil] at bb
  refine wpAny_call (make_map (f := f) I.kIn M.makes M.init (beq_iff_eq.mp M.fn) (codeAny_mono (F.run _ X.stack _ _ ⟨Value.ref (s.heap.objs.size + 1) :: us, []⟩ (Value.ref (s.heap.objs.size + 1) :: us) _ _ (E σ) (hr.make C us []) (J.env0.make C us []) bb rr hq) fun out s2 hq2 => ?_))
  cases out with
  | error er => exact hx pins _ _ er s2 J hq2
  | ok fl =>
    cases fl with
    | ret u => obtain ⟨v, H3, J3, rv, ev, q3⟩ := J.after hq2; subst ev; exact ⟨rv, ⟨V.ref (s.heap.objs.size + 1), H3, J3, rfl, q3⟩⟩
    | next => exact hq2.elim
    | brk => exact hq2.elim
    | cont => exact hq2.elim
theorem pe_makeS (M : Mk X.K C f) (F : FnOk X.prog X.w X.K X.mg X.base CX k f fd ps sp) (hr : Room (k + 1) X.A) (hg : Gl X x) (hm : X.mg x = some (.ref C)) (hb : Binds X.K fd ps []) (hx : ∀ σ, PassesAt CX X σ (E σ)) (ha : PA X (e :: es) t) (hdb : (x == ("__debug__" : Str)) = false := by decide)
    (hst : starEach (e :: es) X.env = (false, eval e X.env) :: starEach es X.env := by rfl) (hpn : (backTo pos (starEach es X.env)).any (·.1) = false := by rfl) : PE X (.Call (.Name x p) (e :: es) [] pos) (tMakeS C sp E t) :=
  ⟨fun pins s σ H Q I h => wpAny_Call_Name_kw (ld_glob I hg hm (PySem.W.callWith_K (h₀ := X.base) I.ok.mod.kin M.kp (thn (ha.run pos pins s σ H _ I h) fun us s1 ⟨vs, H1, I1, r, q⟩ => ⟨I1.kIn, run_makeS M F hr hb (hx σ) I1 r q⟩) hst hpn) hdb)⟩
theorem pe_methS {pl : Sem Bool} (he : PE X o ta) (c : Cls X.K C) (hm : Meth X.K C m f) (F : FnOk X.prog X.w X.K X.mg X.base CX k f fd ps sp) (hr : Room k X.A) (hb : Binds X.K fd ps []) (hx : ∀ σ, PassesAt CX X σ (E σ)) (ha : PA X (e :: es) t) (hst : starEach (e :: es) X.env = (false, eval e X.env) :: starEach es X.env := by rfl) (hpn : (backTo pos (starEach es X.env)).any (·.1) = false := by rfl)
    (ht : eval (.Call (.Attribute o m apos) (e :: es) [] pos) X.env = (do let ov ← eval o X.env; standAt apos.atName; let (f, first) ← holding [ov] (getMethod ov m pl); callWith pos f first (backTo pos (starEach (e :: es) X.env)) (backToKw pos (keywordEach [] X.env))) := by rfl) :
    PE X (.Call (.Attribute o m apos) (e :: es) [] pos) (tMethS C m sp E ta t) := ⟨fun pins s σ H Q I h => PySem.W.methodCall_KW (pl := pl) (thn (he.run pins s σ H _ I h) fun u s1 ⟨x, H1, I1, rx, a, dx, fs, ex, ea, l, q⟩ => by
  subst ex
  obtain rfl : u = Value.ref a := rx
  exact getmeth_ok I1 ea c hm l (PySem.W.callWith_K (first := [.ref a]) (h₀ := X.base) I.ok.mod.kin hm.kp (thn (ha.run pos pins s1 σ H1 _ I1 q) fun us s2 ⟨vs, H2, I2, r, q2⟩ => ⟨I2.kIn, run_fnS (us := .ref a :: us) (vs := .ref a :: vs) F hr hb (hx σ) I2 (.cons rfl r) q2⟩) hst hpn)) ht⟩
end
/-- __init__ of an error: self.f = its one argument -/
def spXI (K : PySem.W.Frag) (C : Addr) (f : Str) : Sp := fun vs H Q _ => ∃ a v, vs = [.ref a, v] ∧ H a = some (exo a C none) ∧ ∀ dx, H dx = none → dx ≠ a → Q .non (upd (upd H dx (exd dx [(f, v)])) a (exo a C (some dx)))
def tRaiseO (C : Addr) (sp : Sp) (Wx : WX) (ta : TA) : TS := fun _ σ H => tMkO C sp [] ta σ H fun cls d H' => Wx cls d σ H'
theorem held_in {X : Cx} {D a dd : Addr} {oe : Obj} {pn pins : List (Addr × Obj)} {s : Shared} {σ : L2.St} {H : Hp} {fs : List (Str × V)} (I : Inv (X.suite a ((a, oe) :: pn)) pins σ H s) (hz : Zc (.ref D) (some dd) oe) (hf : ∃ vs, oe.data = .fields vs) (e : H dd = some (.xd fs)) : ∃ od, PySem.W.InstAt s.heap a oe D (some od) := by
  have g := (I.pin (a, oe) (List.mem_append.mpr (.inl List.mem_cons_self))).1
  obtain ⟨vs, hd⟩ := hf
  have hx : ObjOk X.prog X.w H s.heap dd (.xd fs) := I.hok dd _ e
  obtain ⟨mA, hns, hr⟩ := hx
  obtain ⟨od, ho, hl⟩ := lookIn_ns hns
  exact ⟨od, g, hz.1, by unfold PySem.W.notCls; rw [hd] <;> rfl, by rw [hz.2]; exact ho⟩
def rKX (K : PySem.W.Frag) (a : Addr) (cls : Value) (d : Option Addr) : List V → Hp → VK → Prop := fun xs H Q => ∃ (D dd : Addr) (c : V) (u : Value) (b : Bool) (fs : List (Str × V)), cls = .ref D ∧ d = some dd ∧ ExcC K D ∧ H dd = some (.xd fs) ∧ xs = [.ref a, c] ∧ ClsV c u ∧ PySem.W.kitOne K (.ref D) u = some b ∧ Q (.bl b) H
def rKXT (K : PySem.W.Frag) (a : Addr) (cls : Value) (d : Option Addr) : List V → Hp → VK → Prop := fun xs H Q => ∃ (D dd tp : Addr) (cs : List V) (us : List Value) (b : Bool) (fs : List (Str × V)), cls = .ref D ∧ d = some dd ∧ ExcC K D ∧ H dd = some (.xd fs) ∧ xs = [.ref a, .ref tp] ∧ H tp = some (.tup cs) ∧ Paired ClsV cs us ∧ PySem.W.kitAny K (.ref D) us = some b ∧ Q (.bl b) H
theorem exc_isSome {K : PySem.W.Frag} {D : Addr} (C : ExcC K D) : (PySem.W.clsIn K D).isSome = true := by
  obtain ⟨cd, hc, _⟩ := PySem.W.any_some C.hd
  rw [hc]
  rfl
theorem kisX {X : Cx} {K : PySem.W.Frag} {a : Addr} {cls : Value} {d : Option Addr} {oe : Obj} {pn : List (Addr × Obj)} (hK : X.K = K) (hz : Zc cls d oe) (hf : ∃ vs, oe.data = .fields vs) : CallR (X.suite a ((a, oe) :: pn)) (.builtin "isinstance") (rKX K a cls d) := by
  subst hK
  intro pins s σ H xs us Q I r h
  obtain ⟨D, dd, c, u, b, fs, rfl, rfl, C, hd, rfl, k, e, q⟩ := h
  obtain ⟨u1, u2, rfl, r1, r2⟩ := vals2 r
  cases r1
  have ec := k.eq r2
  subst ec
  obtain ⟨od, J⟩ := held_in I hz hf hd
  exact PySem.W.kia_one (PySem.W.kitx_exc (exc_isSome C) C.hg C.hk C.hs C.ha C.hn C.ht C.hm) I.kIn J e (fun z => nomatch z) fun tk => ⟨.bl b, H, I.kept (t' := tk) fun _ _ z => z, rfl, q⟩
theorem kisXT {X : Cx} {K : PySem.W.Frag} {a : Addr} {cls : Value} {d : Option Addr} {oe : Obj} {pn : List (Addr × Obj)} (hK : X.K = K) (hz : Zc cls d oe) (hf : ∃ vs, oe.data = .fields vs) : CallR (X.suite a ((a, oe) :: pn)) (.builtin "isinstance") (rKXT K a cls d) := by
  subst hK
  intro pins s σ H xs us Q I r h
  obtain ⟨D, dd, tp, cs, ws, b, fs, rfl, rfl, C, hd, rfl, hT, k, e, q⟩ := h
  obtain ⟨u1, u2, rfl, r1, r2⟩ := vals2 r
  cases r1
  cases r2
  obtain ⟨od, J⟩ := held_in I hz hf hd
  obtain ⟨_, its, rv, ⟨oc, ob, dt, sl⟩, g1, g2, n, g3⟩ : ObjOk X.prog X.w H s.heap tp (.tup cs) := I.hok tp _ hT
  have g2' : oc = .type "tuple" := g2
  subst g2'
  have g3' : dt = .seq its.toArray n := g3
  subst g3'
  have e3 := ClsV.all k rv
  subst e3
  exact PySem.W.kia_tup (PySem.W.kitx_exc (exc_isSome C) C.hg C.hk C.hs C.ha C.hn C.ht C.hm) I.kIn J g1 e (fun z => nomatch z) fun tk => ⟨.bl b, H, I.kept (t' := tk) fun _ _ z => z, rfl, q⟩
/-- a list of classes, as arguments -/
inductive ClsA : TA → List V → Prop
  | nil : ClsA tNil []
  | cons {v : V} {t : TA} {vs : List V} : ClsA t vs → ClsA (tCons (tC v) t) (v :: vs)
theorem ClsA.run {t : TA} {vs : List V} (h : ClsA t vs) : ∀ {σ : L2.St} {H : Hp} {Q : List V → Hp → Prop}, Q vs H → t σ H Q := by
  induction h with
  | nil => exact fun h => h
  | cons _ ih => exact fun h => ih h
def bIs (i : Nat) (a dd : Addr) (k : Nat) (b : Bool) : BEx := fun env M _ P => dQ (dAt env i) fun x => isC x a ∧ xQ (M dd) k fun _ => P (.bl b) M
section
variable {W : Wd} {H0 : Hp} {E : XS}
/-- the error in slot i, its dict -/
theorem held_b {F : Addr → Prop} {H : Hp} {M : Sto} {σ : L2.St} {env : List Sl} {X : XD} {i k : Nat} {a dd : Addr} {P : Prop} (c : Cfg W H0 E F H M σ env X) (h : dQ (dAt env i) fun x => isC x a ∧ xQ (M dd) k fun _ => P) : σ[i]? = some (some (.ref a)) ∧ (∃ f v, H dd = some (.xd [(f, v)])) ∧ P := by
  cases e : dAt env i with
  | d x =>
    rw [e] at h
    obtain ⟨hx, h⟩ := h
    obtain ⟨_, e1, v, rfl, r⟩ := c.m.at_ i _ (dAt_get e (fun z => by cases z))
    cases x with
    | cell b =>
      have hx : b = a := hx
      subst hx
      have ev := rv_cell r
      subst ev
      cases hM : M dd with
      | none =>
        rw [hM] at h
        exact h.elim
      | some ce =>
        rw [hM] at h
        cases ce with
        | xd k' ds =>
          match ds, h with
          | [y], ⟨hk, p⟩ =>
            obtain ⟨_, _, f', v, z, hf', hA, ez, rz⟩ := c.st.at_ dd _ hM
            exact ⟨e1, ⟨f', v, hA⟩, p⟩
          | [], h => exact h.elim
          | _ :: _ :: _, h => exact h.elim
        | _ => exact h.elim
    | _ => exact hx.elim
  | u =>
    rw [e] at h
    exact h.elim
  | o xs =>
    rw [e] at h
    exact h.elim
theorem b_isX {i k : Nat} {a dd : Addr} {c : V} {u : Value} {b : Bool} (C : ExcC W.K (W.ca k)) (hc : ClsV c u) (he : PySem.W.kitOne W.K (.ref (W.ca k)) u = some b) : BExp W H0 E (tCB (rKX W.K a (.ref (W.ca k)) (some dd)) (tCons (tVar i) (tCons (tC c) tNil))) (bIs i a dd k b) := ⟨fun σ env F H M Q P X cf h q => by
  obtain ⟨e1, ⟨f, v, hA⟩, p⟩ := held_b cf h
  exact ⟨_, e1, W.ca k, dd, c, u, b, _, rfl, rfl, C, hA, rfl, hc, he, q _ F H _ M p (.refl cf.st) (.bl b)⟩⟩
theorem b_isXT {i k : Nat} {a dd : Addr} {t : TA} {cs : List V} {us : List Value} {b : Bool} (C : ExcC W.K (W.ca k)) (ht : ClsA t cs) (hl : cs.length ≤ 1000) (hc : Paired ClsV cs us) (he : PySem.W.kitAny W.K (.ref (W.ca k)) us = some b) :
    BExp W H0 E (tCB (rKXT W.K a (.ref (W.ca k)) (some dd)) (tCons (tVar i) (tCons (tTup t) tNil))) (bIs i a dd k b) := ⟨fun σ env F H M Q P X cf h q => by
  obtain ⟨e1, ⟨f, v, hA⟩, p⟩ := held_b cf h
  refine ⟨_, e1, ht.run ⟨Nat.le_of_lt (len_size (by omega)), fun tp hn => ?_⟩⟩
  have x2 : Ext W F H F (upd H tp (.tup cs)) := Ext.lay cf.st.ok hn
  have hA2 : upd H tp (.tup cs) dd = some (.xd [(f, v)]) := by
    rw [upd_ne (ne_of_none hA hn)]
    exact hA
  exact ⟨W.ca k, dd, tp, cs, us, b, _, rfl, rfl, C, hA2, rfl, upd_same, hc, he, q _ F _ _ M p (x2.ex2 cf.st) (.bl b)⟩⟩
end
def coQ (o : Option Ce) (P : Nat → List Dat → Prop) : Prop := match o with
  | some (.obj k ds) => P k ds
  | _ => False
theorem coQ_at {o : Option Ce} {P : Nat → List Dat → Prop} (h : coQ o P) : ∃ k ds, o = some (.obj k ds) ∧ P k ds := by
  cases o with
  | none => exact h.elim
  | some c =>
    cases c with
    | obj k ds => exact ⟨k, ds, rfl, h⟩
    | _ => exact h.elim
/-- o.f, o a cell -/
def bFldC (c i : Nat) (eo : BEx) : BEx := fun env M X P => eo env M X fun x M1 => ceQ x fun a => coQ (M1 a) fun k ds => k = c ∧ oQ ds[i]? fun d => P d M1
def putN (ds : List Dat) (i : Nat) (d : Dat) : List Dat := if i < ds.length then ds.set i d else ds ++ [d]
/-- o.f = e, o a cell -/
def zSetF (c i : Nat) (eo ea : BEx) : BSt := fun D env M => ea env M (D.ex env) fun d M1 => eo env M1 (D.ex env) fun x M2 => ceQ x fun a => coQ (M2 a) fun k ds => k = c ∧ i ≤ ds.length ∧ D.nx env (M2.put a (some (.obj c (putN ds i d))))
theorem putF_same {f : Str} {v : V} : ∀ {fs : List (Str × V)} {u : V}, fs.lookup f = some u → (putF f v fs).length = fs.length
  | [], _, h => nomatch h
  | (g, x) :: r, u, h => by
    show (if g = f then (g, v) :: r else (g, x) :: putF f v r).length = _
    by_cases z : g = f
    · rw [if_pos z]
      rfl
    · rw [if_neg z]
      have hh : (f == g) = false := by simpa using fun e : f = g => z e.symm
      have h : r.lookup f = some u := by
        rw [List.lookup_cons, hh] at h
        exact h
      exact congrArg (· + 1) (putF_same h)
theorem RvFs.setAt {W : Wd} {F : Addr → Prop} {H : Hp} {f : Str} {v : V} {d : Dat} (a : Rv W F H v d) : ∀ {ks : List Str} {ds : List Dat} {fs : List (Str × V)} {i : Nat}, RvFs W F H fs ks ds → ks.Nodup → ks[i]? = some f → RvFs W F H (putF f v fs) ks (ds.set i d)
  | _, _, _, _, .nil, _, h => by simp at h
  | _, _, _, 0, .cons e a1 r, nd, h => by
    cases h
    obtain ⟨n1, n2⟩ := List.nodup_cons.mp nd
    exact .cons (by rw [lookup_putF, if_pos rfl]) a (r.put n1)
  | k :: ks, _, _, i + 1, .cons e a1 r, nd, h => by
    obtain ⟨n1, n2⟩ := List.nodup_cons.mp nd
    have h : ks[i]? = some f := h
    exact .cons (by rw [lookup_putF, if_neg (fun z => n1 (by rw [z]; exact List.mem_of_getElem? h))]; exact e) a1 (RvFs.setAt a r n2 h)
section
variable {W : Wd} {E : XS}
theorem z_setF {c i : Nat} {f : Str} {to te : TE} {eo ea : BEx} (cl : Cls W.K (W.ca c)) (na : NoAttr W.K (W.ca c) f) (hf : (clsN c)[i]? = some f) (nd : (clsN c).Nodup) (ln : (clsN c).length < 900) (ho : ∀ H0, BExp W H0 E to eo) (he : ∀ H0, BExp W H0 E te ea) :
    BStm W E (sFld W.K to te f) (zSetF c i eo ea) := ⟨fun F0 H0 M0 F1 H1 De Da σ env F H M cf k h => by
  refine (he H0).run σ env F H M _ _ _ (cf.cfg k) h fun d Fa Ha v Ma p x rv => ?_
  have ca := cf.step x
  refine (ho H0).run σ env Fa Ha Ma _ _ _ (ca.cfg k) p fun o F' H' w M' p x2 ro => ?_
  have cb := ca.step x2
  cases o with
  | cell a =>
    have e := rv_cell (show Rv W F' H' w (.cell a) from ro)
    subst e
    obtain ⟨kk, ds, hM, rfl, hi, p⟩ := coQ_at p
    obtain ⟨nf, np, dx, fs, hA, lf, rf, no⟩ := x2.ok.at_ a _ hM
    have lds := rf.len
    rw [List.length_take] at lds
    have li : i < (clsN kk).length := (List.getElem?_eq_some_iff.mp hf).1
    refine ⟨a, W.ca kk, dx, fs, rfl, hA, cl, na, by omega, ?_⟩
    have rv2 : Rv W F' H' v d := Rv.sub (x2.sub x.ok) rv
    have sb : Sub F' H' F' (upd H' a (.ins (W.ca kk) dx (putF f v fs))) := fun c f => ⟨f, upd_ne (fun z => nf (by rw [← z]; exact f))⟩
    have lk : (putF f v fs).lookup f = some v := by rw [lookup_putF, if_pos rfl]
    have x3 := x2.ok.upd_cell (o := .ins (W.ca kk) dx (putF f v fs)) (c1 := .obj kk (putN ds i d)) hM (by
      refine ⟨dx, putF f v fs, upd_same, ?_⟩
      unfold putN
      by_cases z : i < ds.length
      · rw [if_pos z, List.length_set]
        have hf' : ((clsN kk).take ds.length)[i]? = some f := by rw [List.getElem?_take_of_lt z]; exact hf
        obtain ⟨u, eu, _⟩ := rf.get (i := i) hf' (List.getElem?_eq_getElem z)
        refine ⟨by rw [putF_same eu]; exact lf, (RvFs.setAt rv2 rf (nd.sublist (List.take_sublist _ _)) hf').sub sb, fun m hm => ?_⟩
        rw [lookup_putF, if_neg (fun e => hm (by rw [e]; exact List.mem_of_getElem? hf'))]
        exact no m hm
      · rw [if_neg z]
        have ei : i = ds.length := by omega
        subst ei
        have tk : (clsN kk).take (ds ++ [d]).length = (clsN kk).take ds.length ++ [f] := by
          rw [List.length_append, List.length_singleton, List.take_add_one, hf]
          rfl
        have nm : f ∉ (clsN kk).take ds.length := fun hm => by
          obtain ⟨j, hj⟩ := List.mem_iff_getElem?.mp hm
          have lj := (List.getElem?_eq_some_iff.mp hj).1
          rw [List.length_take] at lj
          rw [List.getElem?_take_of_lt (by omega)] at hj
          have := (List.getElem?_inj (i := j) (j := ds.length) (by omega) nd).mp (hj.trans hf.symm)
          omega
        refine ⟨?_, ?_, fun m hm => ?_⟩
        · have := putF_len f v fs
          rw [List.length_append, List.length_singleton]
          omega
        · rw [tk]
          exact ((rf.put nm).snoc lk rv2).sub sb
        · rw [tk] at hm
          rw [lookup_putF, if_neg (fun e => hm (by rw [e]; exact List.mem_append.mpr (.inr List.mem_cons_self)))]
          exact no m fun e => hm (List.mem_append.mpr (.inl e)))
    have c3 := cb.step x3
    exact k.nx _ _ _ _ _ c3.b c3.m p
  | _ => exact (show False from p).elim⟩
end
def toSpI2 (K : PySem.W.Frag) (ca : Nat → Addr) (c : Nat) (bsp : BSp) : Sp := fun vs H Q E => ∃ (po : Option (Addr × Addr)) (F : Addr → Prop) (H1 : Hp) (x dx : Addr) (ws : List V) (M : Sto) (ds : List Dat) (P : Dat → Sto → Prop) (X : XD),
  vs = .ref x :: ws ∧ H = upd (upd H1 dx (.own x)) x (.ins (ca c) dx []) ∧ H1 x = none ∧ H1 dx = none ∧ dx ≠ x ∧ SoOk ⟨K, ca, po⟩ F H1 M ∧ RvAll ⟨K, ca, po⟩ F H1 ws ds ∧ bsp (.cell x :: ds) (M.put x (some (.obj c []))) X P ∧ XOk ⟨K, ca, po⟩ F H1 M E X ∧
  ∀ d F' H' M' v, P d M' → Ex2 ⟨K, ca, po⟩ F H1 M F' H' M' → Rv ⟨K, ca, po⟩ F' H' v d → Q v H'
def bMake2 (c : Nat) (bsp : BSp) (ba : BFr) : BEx := fun env M X P => ba env M X fun ds M' => ∀ x, M' x = none → bsp (.cell x :: ds) (M'.put x (some (.obj c []))) X fun d M2 => d = .non ∧ P (.cell x) M2
/-- an object's cell that is not changed any more -/
def bFrzO (be : BEx) : BEx := fun env M X P => be env M X fun x M1 => ceQ x fun a => coQ (M1 a) fun k ds => ds.length = (clsN k).length ∧ P (.obj k ds) (M1.put a none)
/-- the start of an __init__ -/
theorem so_made {W : Wd} {F : Addr → Prop} {H1 : Hp} {M : Sto} {x dx : Addr} {c : Nat} (ok : SoOk W F H1 M) (hx : H1 x = none) (hdx : H1 dx = none) (hne : dx ≠ x) : Ex2 W F H1 M F (upd (upd H1 dx (.own x)) x (.ins (W.ca c) dx [])) (M.put x (some (.obj c []))) := by
  have e1 : Ext W F H1 F (upd H1 dx (.own x)) := Ext.lay ok.ok hdx
  have e2 : Ext W F (upd H1 dx (.own x)) F (upd (upd H1 dx (.own x)) x (.ins (W.ca c) dx [])) := Ext.lay e1.ok (by rw [upd_ne hne.symm]; exact hx)
  have y := (e1.ex2 ok).trans (e2.ex2 (e1.ex2 ok).ok)
  refine ⟨y.up, y.dn, y.kp, y.al, fun b hb => ?_, y.ok.new_cell (fun f => ok.ok.tr x f hx) (ok.new hx) (ok.ok.pne hx) ⟨dx, [], upd_same, Nat.le_refl _, .nil, fun _ _ => rfl⟩⟩
  by_cases z : b = x
  · rw [z]
    exact .inr hx
  · rw [Sto.put_n z] at hb
    exact .inl hb
theorem fn_runI2 {K : PySem.W.Frag} {ca : Nat → Addr} {c : Nat} {bsp : BSp} {N : List Str} {vs : List V} {H : Hp} {Q : VK} {E : XK} {ts : TS} {bs : BSt} (h : toSpI2 K ca c bsp vs H Q E) (hs : ∀ po, BStm ⟨K, ca, po⟩ (fun _ => E) ts bs) (hl : ∀ ds M X P, bsp ds M X P → ds.length ≤ N.length)
    (hb : ∀ ds M X P, bsp ds M X P → bs { nx := fun _ M => P .non M, rt := P, ex := fun _ => X } (ds.map Sl.d ++ List.replicate (N.length - ds.length) .u) M) : ts { nx := fun _ H' => Q .non H', rt := Q } (L2.start N vs) H := by
  obtain ⟨po, F, H1, x, dx, ws, M, ds, P, X, rfl, rfl, hx, hdx, hne, ok, r, a, xo, k⟩ := h
  have y := so_made (W := ⟨K, ca, po⟩) (c := c) ok hx hdx hne
  have r2 : RvAll ⟨K, ca, po⟩ F (upd (upd H1 dx (.own x)) x (.ins (ca c) dx [])) (.ref x :: ws) (.cell x :: ds) := .cons (.cell x) (r.sub (y.sub ok))
  exact (hs po).run F _ _ F _ _ { nx := fun _ M => P .non M, rt := P, ex := fun _ => X } _ _ F _ _ ⟨⟨.refl y.ok, Sub.refl F _⟩, mt_start2 r2 (hl _ _ X P a)⟩
    ⟨fun σ env F' H' M' b m p => k .non F' H' M' .non p (y.trans b.ex) .non, fun v d F' H' M' b r p => k d F' H' M' v p (y.trans b.ex) r, fun _ _ _ _ _ _ _ p => p.elim, fun _ _ _ _ _ _ _ p => p.elim, fun _ _ _ _ _ b _ => xo.step (y.trans b.ex)⟩ (hb _ _ X P a)
theorem sp_lenI2 {K : PySem.W.Frag} {ca : Nat → Addr} {c n : Nat} {bsp : BSp} (hn : ∀ ds M X P, bsp ds M X P → ds.length = n) {vs : List V} {H : Hp} {Q : VK} {E : XK} (h : toSpI2 K ca c bsp vs H Q E) : vs.length = n := by
  obtain ⟨po, F, H1, x, dx, ws, M, ds, P, X, rfl, rfl, hx, hdx, hne, ok, r, a, xo, k⟩ := h
  have := hn _ _ X P a
  rw [List.length_cons] at this ⊢
  rw [r.length]
  exact this
structure XMk (P : Program) (w : World) (K : PySem.W.Frag) (mg : Str → Option Value) (base : Heap) (x : Str) (C : Addr) (f : Str) : Prop where
  ex : ∃ (fI : Addr) (fd : FuncData) (ps : List Str), OexC K C ∧ PySem.W.findIn K (.ref C) "__init__" = some (some (.ref fI)) ∧ PySem.W.typeIn K (.ref fI) = some (.type "function") ∧ FnOk P w K mg base CX0 1 fI fd ps (spXI K C f) ∧ Binds K fd ps [] ∧ mg x = some (.ref C)
theorem pmk_x {X : Cx} {x f : Str} {C : Addr} {e : Expr} {es : List Expr} {ta : TA} {p pos : Pos} {k : Nat} (c : XMk X.prog X.w X.K X.mg X.base x C f) (hr : Room k X.A) (hk : 2 ≤ k) (hg : Gl X x) (ha : PA X (e :: es) ta)
    (hdb : (x == ("__debug__" : Str)) = false := by decide) (he : starEach (e :: es) X.env = (false, eval e X.env) :: starEach es X.env := by rfl) (hpl : (backTo pos (starEach es X.env)).any (·.1) = false := by rfl) : PMk X (.Call (.Name x p) (e :: es) [] pos) (tMkO C (spXI X.K C f) [] ta) := by
  obtain ⟨fI, fd, ps, T, iC, tI, F, hb, hm⟩ := c.ex
  exact pmk_oex T iC tI F (hr.mono hk) hb .nil pass0 hg hm ha hdb he hpl
structure CalX (P : Program) (w : World) (K : PySem.W.Frag) (mg : Str → Option Value) (base : Heap) (k : Nat) (x : Str) (sp : Sp) : Prop where
  ex : ∃ (f : Addr) (fd : FuncData) (ps : List Str), FnOk P w K mg base (L2.CX P w) k f fd ps sp ∧ mg x = some (.ref f) ∧ PySem.W.keepIn K (.ref f) = true ∧ Binds K fd ps []
theorem pe_cX {X : Cx} {x : Str} {sp : Sp} {W : WX} {e : Expr} {es : List Expr} {t : TA} {p pos : Pos} {k n : Nat} (c : CalX X.prog X.w X.K X.mg X.base n x sp) (tk : Takes X W) (hr : Room k X.A) (hk : n ≤ k) (hg : Gl X x) (ha : PA X (e :: es) t)
    (hdb : (x == ("__debug__" : Str)) = false := by decide) (he : starEach (e :: es) X.env = (false, eval e X.env) :: starEach es X.env := by rfl) (hpl : (backTo pos (starEach es X.env)).any (·.1) = false := by rfl) : PE X (.Call (.Name x p) (e :: es) [] pos) (tCallS sp (WE W) t) := by
  obtain ⟨f, fd, ps, F, hm, hkp, hb⟩ := c.ex
  exact pe_callS F (hr.mono hk) hg hm hkp hb (fun σ => passAt tk σ) ha hdb he hpl
/-- a class whose __init__ may raise -/
structure MakX (P : Program) (w : World) (K : PySem.W.Frag) (mg : Str → Option Value) (base : Heap) (k : Nat) (x : Str) (C : Addr) (sp : Sp) : Prop where
  ex : ∃ (f : Addr) (fd : FuncData) (ps : List Str), Mk K C f ∧ FnOk P w K mg base (L2.CX P w) k f fd ps sp ∧ mg x = some (.ref C) ∧ Binds K fd ps []
theorem pe_mkX {X : Cx} {x : Str} {C : Addr} {sp : Sp} {W : WX} {e : Expr} {es : List Expr} {t : TA} {p pos : Pos} {k n : Nat} (c : MakX X.prog X.w X.K X.mg X.base n x C sp) (tk : Takes X W) (hr : Room k X.A) (hk : n + 1 ≤ k) (hg : Gl X x) (ha : PA X (e :: es) t)
    (hdb : (x == ("__debug__" : Str)) = false := by decide) (he : starEach (e :: es) X.env = (false, eval e X.env) :: starEach es X.env := by rfl) (hpl : (backTo pos (starEach es X.env)).any (·.1) = false := by rfl) : PE X (.Call (.Name x p) (e :: es) [] pos) (tMakeS C sp (WE W) t) := by
  obtain ⟨f, fd, ps, M, F, hm, hb⟩ := c.ex
  exact pe_makeS M F (hr.mono hk) hg hm hb (fun σ => passAt tk σ) ha hdb he hpl
theorem mkO_of {K : PySem.W.Frag} {C : Addr} {f : Str} {G : Value → Option Addr → Hp → Prop} {vs : List V} {H1 : Hp} (h : ∃ v, vs = [v] ∧ ∀ d, H1 d = none → G (.ref C) (some d) (upd H1 d (.xd [(f, v)]))) : vs.length ≤ 1000 ∧ ∀ a, H1 a = none → spXI K C f (.ref a :: (vs ++ [])) (upd H1 a (exo a C none))
    (fun v H2 => v = .non ∧ ∃ (d : Addr) (fs : List (Str × V)), H2 a = some (exo a C (some d)) ∧ H2 d = some (exd d fs) ∧ H1 d = none ∧ G (.ref C) (some d) (upd (L2.del H2 a) d (.xd fs))) (fun _ _ _ => False) := by
  obtain ⟨v, rfl, hv⟩ := h
  refine ⟨Nat.le_of_ble_eq_true rfl, fun a ha => ⟨a, v, rfl, upd_same, fun dx hdx hne => ⟨rfl, dx, [(f, v)], upd_same, ?_, ?_, ?_⟩⟩⟩
  · rw [upd_ne hne]
    exact upd_same
  · rw [upd_ne hne] at hdx
    exact hdx
  · rw [upd_ne hne] at hdx
    have e : upd (L2.del (upd (upd (upd H1 a (exo a C none)) dx (exd dx [(f, v)])) a (exo a C (some dx))) a) dx (.xd [(f, v)]) = upd H1 dx (.xd [(f, v)]) := by
      funext b
      by_cases h1 : b = dx
      · rw [h1, upd_same, upd_same]
      · rw [upd_ne h1, upd_ne h1]
        by_cases h2 : b = a
        · rw [h2, del_same, ha]
        · rw [del_ne h2, upd_ne h2, upd_ne h1, upd_ne h2]
    rw [e]
    exact hv dx hdx
theorem z_raiseO {W : Wd} {E : XS} {k : Nat} {f : Str} {ta : TA} {ba : BFr} (hf : xcN k = some f) (ha : ∀ H0, BArg W H0 E 1 ta ba) : BStm W E (tRaiseO (W.ca k) (spXI W.K (W.ca k) f) (fun cls d σ H => E σ cls d H) ta) (zRaise k ba) := ⟨fun F0 H0 M0 F1 H1 De Da σ env F H M c kk h =>
  (ha H0).run σ env F H M _ _ _ (c.cfg kk) h fun ds F' H' vs M' p x r l => mkO_of (G := fun cls d H => E σ cls d H) (by
    match ds, l, p, r with
    | [d], _, p, .cons (v := v) r1 .nil =>
      refine ⟨v, rfl, fun dd hd => ?_⟩
      have x2 : Ext W F' H' F' (upd H' dd (.xd [(f, v)])) := Ext.lay x.ok.ok hd
      refine (c.cfg kk).x k [d] (some dd) F' (upd H' dd (.xd [(f, v)])) M' (x.trans (x2.ex2 x.ok)) ?_ (fun a e => by cases e; exact x.there hd) p
      unfold XAt
      rw [hf]
      exact ⟨dd, v, d, rfl, upd_same, rfl, r1.sub (x2.sub x.ok.ok), fun f => x.ok.ok.tr dd f hd, x.ok.new hd, x.ok.ok.pne hd⟩)⟩
theorem coQ_o {k : Nat} {ds : List Dat} {P : Nat → List Dat → Prop} : coQ (some (.obj k ds)) P = P k ds := rfl
theorem isC_c {a b : Addr} : isC (.cell b) a = (b = a) := rfl
theorem pe_globC {X : Cx} {x : Str} {C : Addr} {pos : Pos} (hg : Gl X x) (hm : X.mg x = some (.ref C)) (hd : (x == ("__debug__" : Str)) = false := by decide) : PE X (.Name x pos) (tC (.ref C)) := pe_glob (v := .ref _) hg hm rfl hd
open AutoSeq1 (wpAny_loadPart')
theorem tuple_eqB {prog : Program} {w : World} {A : Around} {R : Result → Shared → Prop} (l b : Addr) (items items2 : Array Value) (n n2 : Nat) (dd dd2 : Option Addr) (sl sl2 : Array (Option Value)) (I : Nat → Shared → Prop) (N : Shared → Prop)
    (turn : ∀ i (h1 : i < items.size) (h2 : i < items2.size) s, I i s → wpAny (model prog w) A.in1 (eqBool items[i] items2[i]) (fun r s' => (r = true ∧ I (i + 1) s') ∨ (r = false ∧ N s')) (fun e s' => R (.error e) s') s)
    (fin : ∀ s, I (min items.size items2.size) s → R (.ok (.ret (.bool (items.size == items2.size)))) s) (bad : ∀ s, N s → R (.ok (.ret (.bool false))) s)
    {s : Shared} (hl1 : s.heap.get? l = some { cls := .type "tuple", dict := dd, data := .seq items n, slots := sl }) (hb1 : s.heap.get? b = some { cls := .type "tuple", dict := dd2, data := .seq items2 n2, slots := sl2 }) (h : I 0 s) :
    wpAny (model prog w) A.in1 (Builtin.«tuple.__eq__» ⟨[.ref l, .ref b], []⟩) (GQ.FinOf prog w A R) (fun e s' => R (.error e) s') s := by
  have f2 := AutoSeq1.sub_tuple_tuple
  have hZ : (items.toList.zip items2.toList).length = min items.size items2.size := by simp
  have h0 := h
  obtain ⟨hp, g, d, tk, os⟩ := s
  wp_walk using wpAny_loadPart' hl1, wpAny_loadPart' hb1, wpAny_forIn_list _ (fun rest b s' => b.1 = none ∧ ∃ i, rest = (items.toList.zip items2.toList).drop i ∧ i ≤ min items.size items2.size ∧ I i s') _
  case turn =>
    rintro ⟨y, x⟩ rest b s' ⟨hb', i, hz, hi, hI⟩
    have hlt : i < (items.toList.zip items2.toList).length := by
      rcases Nat.lt_or_ge i (items.toList.zip items2.toList).length with h' | h'
      · exact h'
      · rw [List.drop_of_length_le h'] at hz; cases hz
    have hm : i < min items.size items2.size := hZ ▸ hlt
    have h1 : i < items.size := Nat.lt_of_lt_of_le hm (Nat.min_le_left _ _)
    have h2 : i < items2.size := Nat.lt_of_lt_of_le hm (Nat.min_le_right _ _)
    rw [List.drop_eq_getElem_cons hlt] at hz
    injection hz with hyx hrest
    have hy : y = items[i] := by have := congrArg Prod.fst hyx; simpa using this
    have hx : x = items2[i] := by have := congrArg Prod.snd hyx; simpa using this
    subst hy hx
    refine wpAny_bind (wpAny_mono (turn i h1 h2 s' hI) (fun r s2 q2 => ?_) fun _ _ x => x)
    rcases q2 with ⟨hr, q2⟩ | ⟨hr, q2⟩
    · subst hr
      wp_walk
      exact ⟨rfl, i + 1, hrest, hm, q2⟩
    · subst hr
      have hR := bad s2 q2
      wp_walk
      simpa using hR
  case fin =>
    rintro ⟨b1, b2⟩ s' ⟨hb', i, hz, hi, hI⟩
    simp only at hb'
    subst hb'
    have hge : min items.size items2.size ≤ i := by
      rcases Nat.lt_or_ge i (items.toList.zip items2.toList).length with h' | h'
      · rw [List.drop_eq_getElem_cons h'] at hz; cases hz
      · exact hZ ▸ h'
    have hi' : i = min items.size items2.size := Nat.le_antisymm hi hge
    have hR := fin s' (hi' ▸ hI)
    wp_walk
    simpa [Builtin.Tuple.tupleCompareSizes] using hR
  case h =>
    exact ⟨rfl, 0, rfl, Nat.zero_le _, h0⟩
theorem rc_tupB {prog : Program} {w : World} {A : Around} {E : Value → Shared → Prop} {s : Shared} {l b : Addr} {items items2 : Array Value} {Q : Value → Shared → Prop} (hu : A.units < cLine) (I : Nat → Shared → Prop) (N : Shared → Prop)
    (hl : s.heap.IsTuple l items) (hb : s.heap.IsTuple b items2)
    (turn : ∀ i (h1 : i < items.size) (h2 : i < items2.size) s, I i s → wpAny (model prog w) A.in1 (eqBool items[i] items2[i]) (fun r s' => (r = true ∧ I (i + 1) s') ∨ (r = false ∧ N s')) E s)
    (fin : ∀ s, I (min items.size items2.size) s → Q (.bool (items.size == items2.size)) s) (bad : ∀ s, N s → Q (.bool false) s) (h : I 0 s) : wpAny (model prog w) A (richCompare .Eq (.ref l) (.ref b)) Q E s := by
  obtain ⟨⟨cls, dd, data, sl⟩, ho, hc, n, hd⟩ := id hl
  obtain ⟨⟨cls2, dd2, data2, sl2⟩, ho2, hc2, n2, hd2⟩ := id hb
  simp only at hc hd hc2 hd2
  subst hc hd hc2 hd2
  refine wpAny_richCompare_same_room (op := .Eq) ⟨_, ho, rfl⟩ ⟨_, ho2, rfl⟩ F.slot_tuple_eq (GQ.call_here F.slot_tuple_eq ⟨_, ho, rfl⟩ F.entry_tuple_eq (F.args_tuple_eq_2 _ _) ?_) hu
  exact tuple_eqB (R := wants (fun v s' => v ≠ .notImplemented ∧ Q v s') E) l b items items2 n n2 dd dd2 sl sl2 I N turn (fun s' q => ⟨(fun x => nomatch x), fin s' q⟩) (fun s' q => ⟨(fun x => nomatch x), bad s' q⟩) ho ho2 h
/-- a value reads in one way only -/
def UQ (S : Dat → Dat → Prop) : Prop := ∀ (W : Wd) (F : Addr → Prop) (H : Hp) (v : V) (d e : Dat), S d e → Rv W F H v d → Rv W F H v e → d = e
def EqS (X : Cx) (ca : Nat → Addr) (n : Nat) (S : Dat → Dat → Prop) : Prop :=
  ∀ (po : Option (Addr × Addr)) (A : Around) (pins : List (Addr × Obj)) (s : Shared) (σ : L2.St) (F : Addr → Prop) (H : Hp) (x y : V) (d e : Dat) (u v : Value), L2.Sub X n A → Inv X pins σ H s → RelV x u → RelV y v → Okk ⟨X.K, ca, po⟩ F H → Rv ⟨X.K, ca, po⟩ F H x d → Rv ⟨X.K, ca, po⟩ F H y e → S d e →
    wpAny (model X.prog X.w) A (eqBool u v) (fun r s' => (r = true ↔ d = e) ∧ ∃ F' H', Inv X pins σ H' s' ∧ Ext ⟨X.K, ca, po⟩ F H F' H') X.xe s
def RcS (X : Cx) (ca : Nat → Addr) (n : Nat) (S : Dat → Dat → Prop) : Prop :=
  ∀ (po : Option (Addr × Addr)) (A : Around) (pins : List (Addr × Obj)) (s : Shared) (σ : L2.St) (F : Addr → Prop) (H : Hp) (x y : V) (d e : Dat) (u v : Value), L2.Sub X n A → Inv X pins σ H s → RelV x u → RelV y v → Okk ⟨X.K, ca, po⟩ F H → Rv ⟨X.K, ca, po⟩ F H x d → Rv ⟨X.K, ca, po⟩ F H y e → S d e →
    wpAny (model X.prog X.w) A (richCompare .Eq u v) (fun r s' => (∃ b, r = .bool b ∧ (b = true ↔ d = e)) ∧ ∃ F' H', Inv X pins σ H' s' ∧ Ext ⟨X.K, ca, po⟩ F H F' H') X.xe s
section
variable {X : Cx} {ca : Nat → Addr} {n : Nat} {S : Dat → Dat → Prop}
/-- tuples, item by item -/
def tupS (S : Dat → Dat → Prop) : Dat → Dat → Prop := fun d e => ∃ ds es, d = .tup ds ∧ e = .tup es ∧ ∀ (i : Nat) (x y : Dat), ds[i]? = some x → es[i]? = some y → S x y
theorem RvAll.uq (hu : UQ S) {W : Wd} {F : Addr → Prop} {H : Hp} : ∀ {vs : List V} {ds es : List Dat}, (∀ (i : Nat) (x y : Dat), ds[i]? = some x → es[i]? = some y → S x y) → RvAll W F H vs ds → RvAll W F H vs es → ds = es
  | _, _, _, _, .nil, .nil => rfl
  | _, _, _, h, .cons a r, .cons b q => by
    rw [hu _ _ _ _ _ _ (h 0 _ _ rfl rfl) a b, RvAll.uq hu (fun i x y h1 h2 => h (i + 1) x y h1 h2) r q]
theorem UQ.tup (hu : UQ S) : UQ (tupS S) := fun W F H v d e hs r1 r2 => by
  obtain ⟨ds, es, rfl, rfl, h⟩ := hs
  cases r1 with
  | @tup a vs _ hA rr =>
    cases r2 with
    | @tup _ ws _ hB qq =>
      have e1 : vs = ws := by
        obtain ⟨_, o, e1, t1⟩ := hA
        obtain ⟨_, o2, e2, t2⟩ := hB
        rw [e1] at e2
        cases e2
        obtain ⟨_, _, rfl⟩ := t1
        obtain ⟨_, _, h2⟩ := t2
        cases h2
        rfl
      subst e1
      rw [RvAll.uq hu h rr qq]
theorem RcS.tup (h : EqS X ca n S) : RcS X ca (n + 1) (tupS S) := by
  intro po A pins s σ F H x y d e u v sb I rx ry ok r1 r2 hs
  obtain ⟨ds, es, rfl, rfl, hs⟩ := hs
  cases r1 with
  | @tup a vs _ hA rr =>
    cases r2 with
    | @tup b ws _ hB qq =>
      cases rx
      cases ry
      obtain ⟨its, r, e, z⟩ := I.tuple hA.sq
      obtain ⟨its2, r2, e2, z2⟩ := I.tuple hB.sq
      have l1 : its.length = ds.length := by rw [← r.length, rr.length]
      have l2 : its2.length = es.length := by rw [← r2.length, qq.length]
      refine rc_tupB sb.room.units0 (fun i s' => ∃ F' H', Inv X pins σ H' s' ∧ Ext ⟨X.K, ca, po⟩ F H F' H' ∧ ∀ j, j < i → ds[j]? = es[j]?) (fun s' => ∃ F' H', Inv X pins σ H' s' ∧ Ext ⟨X.K, ca, po⟩ F H F' H' ∧ ds ≠ es) e e2 (fun i h1 h2 s' q => ?_) (fun s' q => ?_) (fun s' q => ?_) ⟨F, H, I, .refl ok, fun j hj => absurd hj (Nat.not_lt_zero j)⟩
      · obtain ⟨F1, H1, I1, x1, hj⟩ := q
        have k1 : i < vs.length := by rw [r.length]; simpa using h1
        have k2 : i < ws.length := by rw [r2.length]; simpa using h2
        obtain ⟨u, hu, ru⟩ := r.get (List.getElem?_eq_getElem k1)
        obtain ⟨v, hv, rv⟩ := r2.get (List.getElem?_eq_getElem k2)
        have g1 : its[i]? = some its.toArray[i] := by
          have h1' : i < its.length := by simpa using h1
          rw [List.getElem?_eq_getElem h1'] <;> simp
        have g2 : its2[i]? = some its2.toArray[i] := by
          have h2' : i < its2.length := by simpa using h2
          rw [List.getElem?_eq_getElem h2'] <;> simp
        rw [g1] at hu
        rw [g2] at hv
        rw [Option.some.inj hu, Option.some.inj hv]
        obtain ⟨d1, a1, b1⟩ := rr.getV (List.getElem?_eq_getElem k1)
        obtain ⟨d2, a2, b2⟩ := qq.getV (List.getElem?_eq_getElem k2)
        refine wpAny_mono (h po A.in1 pins s' σ F1 H1 _ _ d1 d2 _ _ sb.in1 I1 ru rv x1.ok (b1.sub (x1.sub ok)) (b2.sub (x1.sub ok)) (hs i d1 d2 a1 a2)) (fun r s2 q => ?_) fun _ _ x => x
        obtain ⟨hr, F2, H2, I2, x2⟩ := q
        cases r with
        | true =>
          refine .inl ⟨rfl, F2, H2, I2, x1.trans ok x2, fun j lt => ?_⟩
          by_cases z : j = i
          · subst z
            rw [a1, a2, hr.mp rfl]
          · exact hj j (by omega)
        | false =>
          refine .inr ⟨rfl, F2, H2, I2, x1.trans ok x2, fun z => ?_⟩
          rw [z, a2] at a1
          exact absurd (hr.mpr (Option.some.inj a1).symm) (by decide)
      · obtain ⟨F1, H1, I1, x1, hj⟩ := q
        refine ⟨⟨_, rfl, ?_⟩, F1, H1, I1, x1⟩
        rw [List.size_toArray, List.size_toArray, l1, l2, beq_iff_eq]
        rw [List.size_toArray, List.size_toArray, l1, l2] at hj
        refine ⟨fun z => ?_, fun z => by rw [Dat.tup.inj z]⟩
        congr 1
        refine List.ext_getElem? fun j => ?_
        by_cases lt : j < ds.length
        · exact hj j (by omega)
        · rw [List.getElem?_eq_none (by omega), List.getElem?_eq_none (by omega)]
      · obtain ⟨F1, H1, I1, x1, hj⟩ := q
        exact ⟨⟨false, rfl, (fun z => by cases z), fun z => absurd (Dat.tup.inj z) hj⟩, F1, H1, I1, x1⟩
/-- objects of one class, by its own == -/
def objS (c : Nat) (asp : ASp) : Dat → Dat → Prop := fun d e => (∃ ds es, d = .obj c ds ∧ e = .obj c es) ∧ asp [d, e] fun z => ∃ b, z = .bl b ∧ (b = true ↔ d = e)
theorem RcS.obj {CX : CXT} {c : Nat} {asp : ASp} {f : Addr} {fd : FuncData} {ps : List Str} {E : XK} (Fn : FnOk X.prog X.w X.K X.mg X.base CX n f fd ps (toSp X.K ca asp))
    (hs : PySem.W.findIn X.K (.ref (ca c)) "__eq__" = some (some (.ref f))) (hf : PySem.W.isFn X.K (.ref f) = true) (hb : Binds X.K fd ps []) (hx : Passes CX X E) : RcS X ca n (objS c asp) := by
  intro po A pins s σ F H x y d e u v sb I rx ry ok r1 r2 hS
  obtain ⟨⟨ds, es, rfl, rfl⟩, ha⟩ := hS
  cases r1 with
  | @obj a dx _ fs _ fa hA rf no =>
    cases r2 with
    | @obj b dy _ gs _ fb hB rg no2 =>
      cases rx
      cases ry
      obtain ⟨mA, J, _⟩ := ins_get I.hok hA
      obtain ⟨mB, J', _⟩ := ins_get I.hok hB
      obtain ⟨od, J, _⟩ := J.look
      obtain ⟨od', J', _⟩ := J'.look
      obtain ⟨m, hF⟩ := I.fr
      refine PySem.W.cmp_K (op := .Eq) (tb := .ref (ca c)) sb.room.units0 hF I.ok.mod.kin J J'.type (by simp [PySem.W.notFirst]) hs hf ?_
      have hsp : toSp X.K ca asp [.ref a, .ref b] H (fun v H' => (∃ b, v = .bl b ∧ (b = true ↔ Dat.obj c ds = Dat.obj c es)) ∧ ∃ F', Ext ⟨X.K, ca, po⟩ F H F' H') E := ⟨po, F, _, _, ok, .cons (.obj fa hA rf no) (.cons (.obj fb hB rg no2) .nil), ha, fun d F' H' v ⟨b, hb, p⟩ x r => by
        subst hb
        cases r
        exact ⟨⟨b, rfl, p⟩, F', x⟩⟩
      have e0 : Env0 X.prog X.w X.K X.mg X.base A X.stack s H := by
        have e := I.env0
        exact ⟨by rw [sb.fr]; exact e.frames, e.mod, e.bs, e.bsz, e.funs, e.frf, e.hok, e.bare⟩
      have hl := Fn.len _ _ _ _ hsp
      have r2 : Vals [V.ref a, V.ref b] [Value.ref a, Value.ref b] := .cons rfl (.cons rfl .nil)
      refine wpAny_call (codeAny_mono (Fn.run A X.stack s H ⟨[.ref a, .ref b], []⟩ [.ref a, .ref b] [.ref a, .ref b] _ E sb.room e0 (by
        have := hb s [.ref a, .ref b] I.kIn (by simpa using hl)
        simpa using this) r2 hsp) fun r s' hq => ?_)
      cases r with
      | error e => exact hx pins σ H s e s' I hq
      | ok fl =>
        cases fl with
        | ret w =>
          obtain ⟨z, H', I', rz, ⟨c, ez, hc⟩, F', ex⟩ := I.after hq
          subst ez
          cases rz
          exact ⟨⟨c, rfl, hc⟩, F', H', I', ex⟩
        | next => exact False.elim hq
        | brk => exact False.elim hq
        | cont => exact False.elim hq
theorem EqS.mono {m : Nat} (h : EqS X ca n S) (hn : n ≤ m) : EqS X ca m S := fun po A pins s σ F H x y d e u v sb => h po A pins s σ F H x y d e u v (sb.mono hn)
theorem RcS.mono {m : Nat} (h : RcS X ca n S) (hn : n ≤ m) : RcS X ca m S := fun po A pins s σ F H x y d e u v sb => h po A pins s σ F H x y d e u v (sb.mono hn)
end
theorem FzT.fn {W : Wd} {F : Addr → Prop} {H : Hp} {a : Addr} {vs ws : List V} (hA : FzT W F H a vs) (hB : FzT W F H a ws) : vs = ws := by
  obtain ⟨_, o, e1, t1⟩ := hA
  obtain ⟨_, o2, e2, t2⟩ := hB
  rw [e1] at e2
  cases e2
  obtain ⟨_, _, rfl⟩ := t1
  obtain ⟨_, _, h2⟩ := t2
  cases h2
  rfl
structure Rm (k : Nat) (A : Around) : Prop where
  rm : (A.depth + 3 * k + 5 < recursionLimit) ∧ (A.units + 16 * k + 200 < cLine)
theorem Rm.mono {j k : Nat} {A : Around} (r : Rm k A) (h : j ≤ k) : Rm j A := ⟨by have := r.rm.1; omega, by have := r.rm.2; omega⟩
theorem Rm.deep {k : Nat} {A : Around} (r : Rm (k + 1) A) (env : Env) : Rm k (A.deeper env) := ⟨by have := r.rm.1; show A.depth + 1 + 3 * k + 5 < _; omega, by have := r.rm.2; show A.units + 3 + 16 * k + 200 < _; omega⟩
structure FnW (P : Program) (w : World) (K : PySem.W.Frag) (mg : Str → Option Value) (base : Heap) (k : Nat) (f : Addr) (fd : FuncData) (ps : List Str) (sp : Sp) : Prop where
  ln : ∀ vs H Q E, sp vs H Q E → vs.length = ps.length
  go : ∀ (A : Around) (outer : List Env) (s : Shared) (H : Hp) (args : Args) (us : List Value) (vs : List V) (Q : VK) (E : XK), Rm k A → Env0 P w K mg base A outer s H → BindsTo s fd args (ps.zip us) → Vals vs us → sp vs H Q E → codeAny (model P w) A (.call (.ref f) args) (CR CX0 outer P w H s Q E) s
section
variable {P : Program} {w : World} {K : PySem.W.Frag} {mg : Str → Option Value} {base : Heap}
def cxW (P : Program) (w : World) (K : PySem.W.Frag) (mg : Str → Option Value) (base : Heap) (N : List Str) (qual : Str) (scope : Scope) (f : Addr) (cd : Value) (A : Around) (outer : List Env) (s : Shared) (H : Hp) (E : XK) : Cx := { cxOf CX0 P w K mg base N qual scope f cd A outer s H E with calm := false }
theorem inv_startW {N ps : List Str} {qual : Str} {scope : Scope} {f : Addr} {cd : Value} {A : Around} {outer : List Env} {s s1 : Shared} {H : Hp} {E : XK} {us : List Value} {vs : List V} (S : FnScope N ps scope) (e0 : Env0 P w K mg base A outer s H) (hl : vs.length = ps.length) (r : Vals vs us)
    (x : InCallC s s.heap.objs.size (bindL (envOfC qual scope s.heap.objs.size f cd).kindOf (ps.zip us) fun _ => none) (cellsFrom (s.heap.objs.size + 1) scope.names []) (bindC (envOfC qual scope s.heap.objs.size f cd).kindOf (ps.zip us) fun _ => none) s1) : Inv (cxW P w K mg base N qual scope f cd A outer s H E) [] (L2.start N vs) H s1 := by
  have e1 : Env0 P w K mg base { A with handled := none } outer s H := ⟨e0.frames, e0.mod, e0.bs, e0.bsz, e0.funs, e0.frf, e0.hok, e0.bare⟩
  have J := inv_start (CX := CX0) (E := E) S rfl e1 hl r x
  exact ⟨{ J.ok with hd := fun z => Bool.noConfusion (show false = true from z), frames := Around.frames_deeper e0.frames }, J.os, J.bare, J.base, J.loc, J.cell, J.free, J.freeC, J.pin, J.hok, J.len⟩
theorem fn_ofW {k : Nat} {f : Addr} {name qual : Str} {params : Arguments} {body : List Stmt} {scope : Scope} {dV kV doc pm cdv ct oc : Value} {an od : Option Addr} {osl : Array (Option Value)} {N ps : List Str} {sp : Sp} (lk : K.lookup f = some ⟨oc, od, .func (PySem.W.fnOf name qual params body scope dV kV doc pm an cdv ct), osl⟩)
    (hcd : PySem.W.codeIn K cdv qual = true) (S : FnScope N ps scope) (ln : ∀ vs H Q E, sp vs H Q E → vs.length = ps.length)
    (hbody : ∀ (A : Around) (outer : List Env) (s : Shared) (H : Hp) (vs : List V) (Q : VK) (E : XK), Rm k (A.deeper (envOfC qual scope s.heap.objs.size f cdv)) → sp vs H Q E → ∃ t, PSs (cxW P w K mg base N qual scope f cdv A outer s H E) body t ∧ t { nx := fun _ H' => Q .non H', rt := Q } (L2.start N vs) H) :
    FnW P w K mg base (k + 1) f (PySem.W.fnOf name qual params body scope dV kV doc pm an cdv ct) ps sp := by
  refine ⟨ln, fun A outer s H args us vs Q E hr e0 hb r hsp => ?_⟩
  have KX : K.In s.heap := e0.mod.kin.keeps fun b o e => (e0.bs b o e).1
  have hkind : ∀ y ∈ ps.zip us, scope.names.lookup y.1 = some .local ∨ (scope.names.lookup y.1 = some .cell ∧ ((cellsFrom (s.heap.objs.size + 1) scope.names []).lookup y.1).isSome = true) := fun ⟨n, v⟩ hy => (S.par n (List.of_mem_zip hy).1).elim .inl fun q => .inr ⟨q, PySem.W.cellsFrom_some _ _ _ (.inl q)⟩
  refine codeAny_call_function (by have := hr.rm.1; omega) (KX _ _ lk) rfl S.co S.gen rfl (PySem.W.codeRec_of KX hcd) (hb _ _ _ _ (wpAny_newFunctionEnv_cells S.kind hkind fun env he s1 x => ?_))
  subst he
  refine ⟨(e0.mod.nolimit.keeps fun b o e => (e0.bs b o e).1).keeps x.toInCall.keep, codeAny_func ?_⟩
  obtain ⟨t, ht, hq⟩ := hbody A outer s H vs Q E (hr.deep _) hsp
  refine wpAny_mono (ht.run [] s1 (L2.start N vs) H _ (inv_startW S e0 (ln _ _ _ _ hsp) r x) hq) (fun fl s' hs => ?_) fun e s' hs => hs
  cases fl with
  | ret u => obtain ⟨v, σ', H', J, rv, q⟩ := hs; exact ⟨v, H', J.os, J.bare, J.base, J.hok, rv, q⟩
  | next => obtain ⟨σ', H', J, q⟩ := hs; exact ⟨.non, H', J.os, J.bare, J.base, J.hok, rfl, q⟩
  | brk => obtain ⟨_, _, _, q⟩ := hs; exact q.elim
  | cont => obtain ⟨_, _, _, q⟩ := hs; exact q.elim
theorem fun_okW {x qual : Str} {st : Stmt} {f : Addr} {fd : FuncData} {N ps : List Str} {k : Nat} {sp : Sp} (F : Fun K x qual st f fd) (S : FnScope N ps (defScope st)) (ln : ∀ vs H Q E, sp vs H Q E → vs.length = ps.length)
    (hbody : ∀ (cdv : Value) (A : Around) (outer : List Env) (s : Shared) (H : Hp) (vs : List V) (Q : VK) (E : XK), Rm k (A.deeper (envOfC qual (defScope st) s.heap.objs.size f cdv)) → sp vs H Q E → ∃ t, PSs (cxW P w K mg base N qual (defScope st) f cdv A outer s H E).nox (defBody st) t ∧ t { nx := fun _ H' => Q .non H', rt := Q } (L2.start N vs) H) : FnW P w K mg base (k + 1) f fd ps sp := by
  obtain ⟨oc, od, kV, doc, pm, an, cdv, ct, osl, rfl, lk, hcd⟩ := F.ex
  refine fn_ofW lk hcd S ln fun A outer s H vs Q E hr hsp => ?_
  obtain ⟨t, h, q⟩ := hbody cdv A outer s H vs Q E hr hsp
  exact ⟨t, h.nox, q⟩
/-- a def that a suite may call -/
structure CalW (P : Program) (w : World) (K : PySem.W.Frag) (mg : Str → Option Value) (base : Heap) (k : Nat) (x : Str) (sp : Sp) : Prop where
  ex : ∃ (f : Addr) (fd : FuncData) (ps : List Str), FnW P w K mg base k f fd ps sp ∧ mg x = some (.ref f) ∧ PySem.W.keepIn K (.ref f) = true ∧ Binds K fd ps []
end
section
variable {X : Cx} {k j : Nat} {x : Str} {sp : Sp} {p pos : Pos} {e : Expr} {es : List Expr} {t : TA}
theorem pe_cW (c : CalW X.prog X.w X.K X.mg X.base k x sp) (hr : Rm j X.A) (hk : k ≤ j) (hg : Gl X x) (ha : PA X (e :: es) t) (hdb : (x == ("__debug__" : Str)) = false := by decide) (he : starEach (e :: es) X.env = (false, eval e X.env) :: starEach es X.env := by rfl) (hpl : (backTo pos (starEach es X.env)).any (·.1) = false := by rfl) :
    PE X (.Call (.Name x p) (e :: es) [] pos) (tCall sp [] E0 t) := by
  obtain ⟨f, fd, ps, F, hm, hkp, hb⟩ := c.ex
  refine ⟨fun pins s σ H Q I h => wpAny_Call_Name_kw (ld_glob I hg hm (PySem.W.callWith_K (h₀ := X.base) I.ok.mod.kin hkp (thn (ha.run pos pins s σ H _ I h) fun us s1 ⟨vs, H1, I1, r, q⟩ => ⟨I1.kIn, ?_⟩) he hpl) hdb)⟩
  have q : sp (vs ++ []) H1 Q E0 := q
  rw [List.append_nil] at q
  have b := hb s1 us I1.kIn (by rw [List.append_nil, ← r.length]; exact F.ln _ _ _ _ q)
  rw [List.append_nil] at b
  refine wpAny_call (codeAny_mono (F.go X.A X.stack s1 H1 ⟨us, []⟩ us vs Q E0 (hr.mono hk) I1.env0 b r q) fun r s' hq => ?_)
  cases r with
  | error e => exact hq.elim
  | ok fl => cases fl with
    | ret u => exact I1.after hq
    | _ => exact False.elim hq
end
theorem z_try1 {W : Wd} {E : XS} {i k0 : Nat} {cv : Value} {tb : WX → TS} {ts : Addr → Value → Option Addr → TS} {bb : BSt} {bs : Addr → Addr → BSt} {Wout : WX} (hks : ∀ k ∈ [k0], (∃ f, xcN k = some f) ∧ PySem.W.exmOne W.K (.ref (W.ca k)) cv = some true) (hb : ∀ Wx : WX, BStm W (fun σ cls d H => Wx cls d σ H) (tb Wx) bb)
    (hs : ∀ a dd, BStm W E (ts a (.ref (W.ca k0)) (some dd)) (bs a dd)) : BStm W E (fun D σ H => tb (wAs W.K cv i ts Wout D) D σ H) (zTry i [k0] bb fun _ => bs) :=
  z_try hks hb fun k hk a dd => by
    obtain rfl := List.mem_singleton.mp hk
    exact hs a dd
/-- a datum as it stands now, cells opened, so many deep -/
def vwD : Nat → Sto → Dat → Dat
  | 0, _, d => d
  | n + 1, M, .cell a => match M a with
    | some (.lst xs) => .lst (xs.map (vwD n M))
    | some (.obj k ds) => if ds.length = (clsN k).length then .obj k (ds.map (vwD n M)) else .cell a
    | some (.dK kvs) => .dK (kvs.map fun p => (p.1, vwD n M p.2))
    | some (.dT ks ds) => .dT ks (ds.map (vwD n M))
    | _ => .cell a
  | _ + 1, _, d => d
def vwS (n : Nat) (M : Sto) : Sl → Sl
  | .d x => .d (vwD n M x)
  | s => s
def Pls (F : Addr → Prop) (M : Sto) : Addr → Prop := fun a => F a ∨ M a ≠ none
def Mns (F : Addr → Prop) (M : Sto) : Addr → Prop := fun a => F a ∧ M a = none
mutual
/-- flat data and tuples of it -/
def ftD : Dat → Bool
  | .non => true
  | .bl _ => true
  | .int _ => true
  | .str _ => true
  | .tup xs => ftAll xs
  | _ => false
def ftAll : List Dat → Bool
  | [] => true
  | x :: xs => ftD x && ftAll xs
end
theorem ftAll_of : ∀ {xs : List Dat}, (∀ x ∈ xs, ftD x = true) → ftAll xs = true
  | [], _ => rfl
  | x :: xs, h => by
    show (ftD x && ftAll xs) = true
    rw [h x List.mem_cons_self, ftAll_of fun y hy => h y (List.mem_cons_of_mem _ hy)]
    rfl
section
variable {W : Wd} {F F' : Addr → Prop} {H H' : Hp} {M : Sto}
theorem sub_pls : Sub F H (Pls F M) H := fun a f => ⟨.inl f, rfl⟩
theorem SoOk.pls (ok : SoOk W F H M) : Okk W (Pls F M) H := ⟨fun a f => by
    rcases f with f | f
    · exact ok.ok.tr a f
    · exact ok.al f, fun p c e => by
    obtain ⟨h1, h2, h3⟩ := ok.ok.po p c e
    have no : ∀ a, (a = p ∨ a = c) → M a = none := fun a ha => by
      cases z : M a with
      | none => rfl
      | some cc =>
        have := (ok.at_ a cc z).2.1 p c e
        rcases ha with ha | ha
        · exact absurd ha this.1
        · exact absurd ha this.2
    exact ⟨h1, fun f => f.elim h2 fun f => f (no p (.inl rfl)), fun f => f.elim h3 fun f => f (no c (.inr rfl))⟩⟩
theorem RvAll.vw {g : Dat → Dat} (k : ∀ v d, Rv W F H v d → Rv W F' H v (g d)) : ∀ {vs : List V} {ds : List Dat}, RvAll W F H vs ds → RvAll W F' H vs (ds.map g)
  | _, _, .nil => .nil
  | _, _, .cons a r => .cons (k _ _ a) (RvAll.vw k r)
theorem RvFs.vw {g : Dat → Dat} (k : ∀ v d, Rv W F H v d → Rv W F' H v (g d)) : ∀ {fs : List (Str × V)} {ks : List Str} {ds : List Dat}, RvFs W F H fs ks ds → RvFs W F' H fs ks (ds.map g)
  | _, _, _, .nil => .nil
  | _, _, _, .cons e a r => .cons e (k _ _ a) (RvFs.vw k r)
theorem RvKv.vw {g : Dat → Dat} (k : ∀ v d, Rv W F H v d → Rv W F' H v (g d)) : ∀ {us : List (Key × V)} {kvs : List (Key × Dat)}, RvKv W F H us kvs → RvKv W F' H us (kvs.map fun p => (p.1, g p.2))
  | _, _, .nil => .nil
  | _, _, .cons a r => .cons (k _ _ a) (RvKv.vw k r)
theorem vw_ok (ok : SoOk W F H M) : ∀ (n : Nat) (v : V) (d : Dat), Rv W F H v d → Rv W (Pls F M) H v (vwD n M d)
  | 0, v, d, r => r.sub sub_pls
  | n + 1, v, d, r => by
    cases d with
    | cell a =>
      have e := rv_cell r
      subst e
      show Rv W (Pls F M) H (.ref a) (match M a with
        | some (.lst xs) => .lst (xs.map (vwD n M))
        | some (.obj k ds) => if ds.length = (clsN k).length then .obj k (ds.map (vwD n M)) else .cell a
        | some (.dK kvs) => .dK (kvs.map fun p => (p.1, vwD n M p.2))
        | some (.dT ks ds) => .dT ks (ds.map (vwD n M))
        | _ => .cell a)
      cases e : M a with
      | none => exact .cell a
      | some c =>
        have pa : Pls F M a := .inr (by rw [e]; exact fun z => by cases z)
        cases c with
        | lst xs =>
          obtain ⟨_, _, vs, h, r⟩ := ok.at_ a _ e
          exact .lst pa h (r.vw (vw_ok ok n))
        | obj k ds =>
          obtain ⟨_, _, dx, fs, h, _, r, no⟩ := ok.at_ a _ e
          show Rv W (Pls F M) H (.ref a) (if ds.length = (clsN k).length then .obj k (ds.map (vwD n M)) else .cell a)
          by_cases z : ds.length = (clsN k).length
          · rw [if_pos z]
            rw [z, List.take_length] at r no
            exact .obj pa h (r.vw (vw_ok ok n)) no
          · rw [if_neg z]
            exact .cell a
        | dK kvs =>
          obtain ⟨_, _, us, h, r⟩ := ok.at_ a _ e
          exact .dK pa h (r.vw (vw_ok ok n))
        | dT ks ds =>
          obtain ⟨_, _, xs, vs, h, k, g, l, r⟩ := ok.at_ a _ e
          exact .dT pa h k (fun x hx => (g x hx).sub sub_pls) l (r.vw (vw_ok ok n))
        | xd _ _ => exact .cell a
    | _ => exact r.sub sub_pls
mutual
theorem Rv.back (k : ∀ a vs, FzT W F H a vs → F' a) : ∀ {v : V} {d : Dat}, Rv W F H v d → ftD d = true → Rv W F' H v d
  | _, _, .non, _ => .non
  | _, _, .bl b, _ => .bl b
  | _, _, .int i, _ => .int i
  | _, _, .str x, _ => .str x
  | _, _, .tup h r, t => .tup ⟨k _ _ h, h.2⟩ (RvAll.back k r t)
  | _, _, .pool _, t => nomatch t
  | _, _, .lst _ _ _, t => nomatch t
  | _, _, .obj _ _ _ _, t => nomatch t
  | _, _, .dK _ _ _, t => nomatch t
  | _, _, .dT _ _ _ _ _ _, t => nomatch t
  | _, _, .rng _ _, t => nomatch t
  | _, _, .cell _, t => nomatch t
theorem RvAll.back (k : ∀ a vs, FzT W F H a vs → F' a) : ∀ {vs : List V} {ds : List Dat}, RvAll W F H vs ds → ftAll ds = true → RvAll W F' H vs ds
  | _, _, .nil, _ => .nil
  | _, _, .cons (d := d) (ds := ds) a r, t => by
    have t : (ftD d && ftAll ds) = true := t
    rw [Bool.and_eq_true] at t
    exact .cons (Rv.back k a t.1) (RvAll.back k r t.2)
end
theorem CeOk.noT {a : Addr} {vs : List V} {o : HO} (e : H a = some o) (t : TpO o vs) : ∀ {c : Ce}, CeOk W F H a c → False := fun {c} h => by
  obtain ⟨ob, _, rfl⟩ := t
  cases c with
  | lst xs =>
    obtain ⟨_, h, _⟩ := h
    rw [e] at h
    cases h
  | obj k ds =>
    obtain ⟨_, _, h, _⟩ := h
    rw [e] at h
    cases h
  | dK kvs =>
    obtain ⟨_, h, _⟩ := h
    rw [e] at h
    cases h
  | dT ks ds =>
    obtain ⟨_, _, h, _⟩ := h
    rw [e] at h
    cases h
  | xd k ds =>
    obtain ⟨_, _, _, _, h, _⟩ := h
    rw [e] at h
    cases h
/-- behind what only looked -/
theorem Ext.vw (ok : SoOk W F H M) (x : Ext W (Pls F M) H F' H') : Ex2 W F H M (Mns F' M) H' M := by
  have sb : Sub F H (Mns F' M) H' := fun a f => ⟨⟨x.up a (.inl f), ok.nf f⟩, (x.sub ok.pls a (.inl f)).2⟩
  refine ⟨fun a f => (sb a f).1, fun a f => ?_, fun a o e n _ => x.kp a o e n, fun a h z => h (x.there ok.pls z), fun a h => .inl h, ⟨fun a f => x.ok.tr a f.1, fun p c e => ?_⟩, fun a c e => ?_⟩
  · rcases x.dn a f.1 with z | z
    · rcases z with z | z
      · exact .inl z
      · exact absurd f.2 z
    · exact .inr (.inl z)
  · obtain ⟨h1, h2, h3⟩ := x.ok.po p c e
    exact ⟨h1, fun f => h2 f.1, fun f => h3 f.1⟩
  · obtain ⟨_, h2, h3⟩ := ok.at_ a c e
    refine ⟨fun f => (by rw [f.2] at e; cases e), h2, h3.sub sb ?_⟩
    cases e2 : H a with
    | none => exact absurd e2 h3.there
    | some o => exact x.kp a o e2 h2.np
theorem Ext.vwR (ok : SoOk W F H M) (x : Ext W (Pls F M) H F' H') : ∀ a vs, FzT W F' H' a vs → Mns F' M a := fun a vs ⟨f, o, e, t⟩ => ⟨f, by
  cases z : M a with
  | none => rfl
  | some c =>
    obtain ⟨_, h2, h3⟩ := (Ext.vw ok x).ok.at_ a c z
    exact (h3.noT e t).elim⟩
theorem Mt.vw {H0 : Hp} {σ : L2.St} {env : List Sl} (ok : SoOk W F H M) (n : Nat) (m : Mt2 W H0 F H M σ env) : Mt W (mask H0 M) (Pls F M) H σ (env.map (vwS n M)) := by
  have inv : ∀ (i : Nat) (s : Sl), (env.map (vwS n M))[i]? = some s → ∃ s0, env[i]? = some s0 ∧ vwS n M s0 = s := fun i s e => by
    rw [List.getElem?_map] at e
    cases z : env[i]? with
    | none =>
      rw [z] at e
      cases e
    | some s0 =>
      rw [z] at e
      exact ⟨s0, rfl, by injection e⟩
  refine ⟨by rw [List.length_map]; exact m.ln, fun i s e => ?_, fun i j xs ys a e1 e2 => ?_⟩
  · obtain ⟨s0, e0, rfl⟩ := inv i s e
    obtain ⟨ov, e1, r⟩ := m.at_ i s0 e0
    refine ⟨ov, e1, ?_⟩
    cases s0 with
    | u => exact trivial
    | d y =>
      obtain ⟨v, e, r⟩ := r
      exact ⟨v, e, vw_ok ok n v y r⟩
    | o xs =>
      obtain ⟨a, vs, e, nf, n0, h, r, np⟩ := r
      exact ⟨a, vs, e, fun f => f.elim nf fun f => f (mask_none.mp n0).1, n0, h, r.sub sub_pls, np⟩
  · obtain ⟨s1, f1, g1⟩ := inv i _ e1
    obtain ⟨s2, f2, g2⟩ := inv j _ e2
    cases s1 with
    | o _ =>
      cases s2 with
      | o _ => exact m.own i j _ _ a f1 f2
      | u => cases g2
      | d _ => cases g2
    | u => cases g1
    | d _ => cases g1
end
def upV (n : Nat) (ae : AEx) : BEx := fun env M _ P => ae (env.map (vwS n M)) fun d => ftD d = true ∧ P d M
def upVF (n : Nat) (ae : AFr) : BFr := fun env M _ P => ae (env.map (vwS n M)) fun ds => ftAll ds = true ∧ P ds M
def upVT (n : Nat) (at_ : ATs) : BTs := fun env M _ P => at_ (env.map (vwS n M)) fun b => P b M
section
variable {W : Wd} {H0 : Hp} {E : XS} {te : TE} {ae : AEx} {tt : TT}
theorem b_upV (n : Nat) (h : ∀ H0, AExp W H0 te ae) : BExp W H0 E te (upV n ae) := ⟨fun σ env F H M Q P X c q k => (h _).run σ _ (Pls F M) H Q _ c.st.pls (c.m.vw c.st n) q fun d F' H' v p x r => k d (Mns F' M) H' v M p.2 (Ext.vw c.st x) (Rv.back (Ext.vwR c.st x) r p.1)⟩
theorem b_upVT (n : Nat) {at_ : ATs} (h : ∀ H0, ATst W H0 tt at_) : BTst W H0 E tt (upVT n at_) := ⟨fun σ env F H M Q P X c q k => (h _).run σ _ (Pls F M) H Q _ c.st.pls (c.m.vw c.st n) q fun b F' H' p x => k b (Mns F' M) H' M p (Ext.vw c.st x)⟩
theorem b_upVF (n : Nat) {af : AFr} (h : ∀ H0, AFrs W H0 te af) : BFrs W H0 E te (upVF n af) := ⟨fun σ env F H M Q P X c q k => (h _).run σ _ (Pls F M) H Q _ c.st.pls (c.m.vw c.st n) q fun ds F' H' a vs p x nn nf ha r => k ds (Mns F' M) H' a vs M p.2 (Ext.vw c.st x) nn (fun f => nf f.1) (c.st.new nn) ha (RvAll.back (Ext.vwR c.st x) r p.1)⟩
end
def dkQ (o : Option Ce) (P : List (Key × Dat) → Prop) : Prop := match o with
  | some (.dK kvs) => P kvs
  | _ => False
theorem dkQ_at {o : Option Ce} {P : List (Key × Dat) → Prop} (h : dkQ o P) : ∃ kvs, o = some (.dK kvs) ∧ P kvs := by
  cases o with
  | none => exact h.elim
  | some c =>
    cases c with
    | dK kvs => exact ⟨kvs, rfl, h⟩
    | _ => exact h.elim
def ksQ : Dat → (Key → Prop) → Prop
  | .str s, P => P (.inr s)
  | .int i, P => P (.inl i)
  | _, _ => False
theorem ksQ_at {W : Wd} {F : Addr → Prop} {H : Hp} {v : V} {d : Dat} {P : Key → Prop} (h : ksQ d P) (r : Rv W F H v d) : ∃ k, v = kV k ∧ P k := by
  cases r with
  | str s => exact ⟨.inr s, rfl, h⟩
  | int i => exact ⟨.inl i, rfl, h⟩
  | _ => exact (show False from h).elim
def putD (kvs : List (Key × Dat)) (k : Key) (d : Dat) : List (Key × Dat) := if (kvs.any fun kv => decide (kv.1 = k)) = true then kvs.map (fun kv => if kv.1 = k then (kv.1, d) else kv) else kvs ++ [(k, d)]
theorem RvKv.len {W : Wd} {F : Addr → Prop} {H : Hp} : ∀ {us : List (Key × V)} {kvs : List (Key × Dat)}, RvKv W F H us kvs → us.length = kvs.length
  | _, _, .nil => rfl
  | _, _, .cons _ r => congrArg (· + 1) (RvKv.len r)
theorem RvKv.any {W : Wd} {F : Addr → Prop} {H : Hp} {k : Key} : ∀ {us : List (Key × V)} {kvs : List (Key × Dat)}, RvKv W F H us kvs → (us.any fun kv => decide (kv.1 = k)) = (kvs.any fun kv => decide (kv.1 = k))
  | _, _, .nil => rfl
  | _, _, .cons (k := k') _ r => by
    rw [List.any_cons, List.any_cons, RvKv.any r]
theorem RvKv.mapP {W : Wd} {F : Addr → Prop} {H : Hp} {k : Key} {v : V} {d : Dat} (a : Rv W F H v d) : ∀ {us : List (Key × V)} {kvs : List (Key × Dat)}, RvKv W F H us kvs → RvKv W F H (us.map fun kv => if kv.1 = k then (kv.1, v) else kv) (kvs.map fun kv => if kv.1 = k then (kv.1, d) else kv)
  | _, _, .nil => .nil
  | _, _, .cons (k := k') b r => by
    rw [List.map_cons, List.map_cons]
    by_cases z : k' = k
    · rw [if_pos z, if_pos z]
      exact .cons a (RvKv.mapP a r)
    · rw [if_neg z, if_neg z]
      exact .cons b (RvKv.mapP a r)
theorem RvKv.snoc {W : Wd} {F : Addr → Prop} {H : Hp} {k : Key} {v : V} {d : Dat} (a : Rv W F H v d) : ∀ {us : List (Key × V)} {kvs : List (Key × Dat)}, RvKv W F H us kvs → RvKv W F H (us ++ [(k, v)]) (kvs ++ [(k, d)])
  | _, _, .nil => .cons a .nil
  | _, _, .cons b r => .cons b (RvKv.snoc a r)
theorem RvKv.put {W : Wd} {F : Addr → Prop} {H : Hp} {k : Key} {v : V} {d : Dat} {us : List (Key × V)} {kvs : List (Key × Dat)} (r : RvKv W F H us kvs) (a : Rv W F H v d) : RvKv W F H (putK us k v) (putD kvs k d) := by
  unfold putK putD
  rw [r.any]
  by_cases z : (kvs.any fun kv => decide (kv.1 = k)) = true
  · rw [if_pos z, if_pos z]
    exact r.mapP a
  · rw [if_neg z, if_neg z]
    exact r.snoc a
def mergeD (kvs more : List (Key × Dat)) : List (Key × Dat) := more.foldl (fun acc kv => putD acc kv.1 kv.2) kvs
theorem RvKv.merge {W : Wd} {F : Addr → Prop} {H : Hp} : ∀ {us us' : List (Key × V)} {kvs kvs' : List (Key × Dat)}, RvKv W F H us' kvs' → RvKv W F H us kvs → RvKv W F H (mergeK us us') (mergeD kvs kvs')
  | _, _, _, _, .nil, q => q
  | _, _, _, _, .cons (k := k) a r, q => RvKv.merge (us := putK _ k _) (kvs := putD _ k _) r (q.put a)
/-- d[k], d a cell -/
def bDget (eo ek : BEx) : BEx := fun env M X P => eo env M X fun x M1 => ek env M1 X fun y M2 => ceQ x fun a => ksQ y fun k => dkQ (M2 a) fun kvs => oQ (dgetD kvs k) fun d => P d M2
/-- d[k] = v -/
def zPutD (ev eo ek : BEx) : BSt := fun D env M => ev env M (D.ex env) fun d M1 => eo env M1 (D.ex env) fun x M2 => ek env M2 (D.ex env) fun y M3 => ceQ x fun a => ksQ y fun k => dkQ (M3 a) fun kvs => kvs.length < 1000 ∧ D.nx env (M3.put a (some (.dK (putD kvs k d))))
abbrev BPf := List Sl → Sto → XD → (List (Key × Dat) → Sto → Prop) → Prop
def bPn : BPf := fun _ M _ P => P [] M
def bPc (k : Key) (ea : BEx) (er : BPf) : BPf := fun env M X P => ea env M X fun d M1 => er env M1 X fun ds M2 => P ((k, d) :: ds) M2
structure BPrs (W : Wd) (H0 : Hp) (E : XS) (trs : List (TE × TE)) (bp : BPf) : Prop where
  run : ∀ (σ : L2.St) (env : List Sl) (F : Addr → Prop) (H : Hp) (M : Sto) (Q : List (V × V) → Hp → Prop) (P : List (Key × Dat) → Sto → Prop) (X : XD), Cfg W H0 E F H M σ env X → bp env M X P →
    (∀ kds F' H' (us : List (Key × V)) M', P kds M' → Ex2 W F H M F' H' M' → RvKv W F' H' us kds → Q (us.map fun kv => (kV kv.1, kv.2)) H') → tPairs trs σ H Q
/-- {k: e, ..}: from now on a cell -/
def bDisp (bp : BPf) : BEx := fun env M X P => ∀ p, M p = none → bp env (M.put p (some (.dK []))) X fun kds M2 => dkQ (M2 p) fun e => e = [] ∧ kds.length ≤ 15 ∧ P (.cell p) (M2.put p (some (.dK (mergeD [] kds))))
section
variable {W : Wd} {H0 : Hp} {E : XS} {te to tk tv : TE} {eo ek ea : BEx}
theorem b_dget (ho : BExp W H0 E to eo) (hk : BExp W H0 E tk ek) : BExp W H0 E (tDGet to tk) (bDget eo ek) := ⟨fun σ env F H M Q P X c q k => ho.run σ env F H M _ _ X c q fun d F1 H1 v M1 p1 x1 r1 => hk.run σ env F1 H1 M1 _ _ X (c.step x1) p1 fun y F2 H2 u M2 p2 x2 r2 => by
  cases d with
  | cell a =>
    have e := rv_cell (show Rv W F1 H1 v (.cell a) from r1)
    subst e
    obtain ⟨kk, rfl, p2⟩ := ksQ_at p2 r2
    obtain ⟨kvs, hM, p2⟩ := dkQ_at p2
    obtain ⟨nf, np, us, hA, rr⟩ := x2.ok.at_ a _ hM
    cases g : dgetD kvs kk with
    | none =>
      rw [g] at p2
      exact p2.elim
    | some z =>
      rw [g] at p2
      obtain ⟨w, e1, rw_⟩ := rr.dget g
      exact ⟨a, w, rfl, by rw [← e1]; exact DGet.k hA, k z F2 H2 w M2 p2 (x1.trans x2) rw_⟩
  | _ => exact (show False from p2).elim⟩
theorem z_putD (hv : ∀ H0, BExp W H0 E tv ea) (ho : ∀ H0, BExp W H0 E to eo) (hk : ∀ H0, BExp W H0 E tk ek) : BStm W E (sDPut to tk tv) (zPutD ea eo ek) := ⟨fun F0 H0 M0 F1 H1 De Da σ env F H M cf k h => by
  refine (hv H0).run σ env F H M _ _ _ (cf.cfg k) h fun d Fa Ha v Ma p x rv => ?_
  have ca := cf.step x
  refine (ho H0).run σ env Fa Ha Ma _ _ _ (ca.cfg k) p fun o Fb Hb w Mb p x2 ro => ?_
  have cb := ca.step x2
  refine (hk H0).run σ env Fb Hb Mb _ _ _ (cb.cfg k) p fun y F' H' u M' p x3 ry => ?_
  have cc := cb.step x3
  cases o with
  | cell a =>
    have e := rv_cell (show Rv W Fb Hb w (.cell a) from ro)
    subst e
    obtain ⟨kk, rfl, p⟩ := ksQ_at p ry
    obtain ⟨kvs, hM, hl, p⟩ := dkQ_at p
    obtain ⟨nf, np, us, hA, rr⟩ := x3.ok.at_ a _ hM
    have rv2 : Rv W F' H' v d := Rv.sub (x3.sub x2.ok) (Rv.sub (x2.sub x.ok) rv)
    have sb : Sub F' H' F' (upd H' a (.dK (putK us kk v))) := fun c f => ⟨f, upd_ne (fun z => nf (by rw [← z]; exact f))⟩
    refine ⟨a, _, rfl, DPut.k hA (Nat.lt_of_lt_of_le (by rw [rr.len]; exact hl) (by rw [sizeLine_eq]; decide)), ?_⟩
    have x4 := x3.ok.upd_cell (o := .dK (putK us kk v)) (c1 := .dK (putD kvs kk d)) hM ⟨_, upd_same, (rr.put rv2).sub sb⟩
    have c4 := cc.step x4
    exact k.nx _ _ _ _ _ c4.b c4.m p
  | _ => exact (show False from p).elim⟩
theorem b_pnil : BPrs W H0 E [] bPn := ⟨fun σ env F H M Q P X c q k => k [] F H [] M q (.refl c.st) .nil⟩
theorem b_pcons {x : Str} {trs : List (TE × TE)} {er : BPf} (ha : BExp W H0 E te ea) (hr : BPrs W H0 E trs er) : BPrs W H0 E ((tC (.str x), te) :: trs) (bPc (.inr x) ea er) := ⟨fun σ env F H M Q P X c q k =>
  ha.run σ env F H M _ _ X c q fun d F1 H1 v M1 p1 x1 r1 => hr.run σ env F1 H1 M1 _ _ X (c.step x1) p1 fun kds F2 H2 us M2 p2 x2 r2 => k ((.inr x, d) :: kds) F2 H2 ((.inr x, v) :: us) M2 p2 (x1.trans x2) (.cons (Rv.sub (x2.sub x1.ok) r1) r2)⟩
theorem b_disp {trs : List (TE × TE)} {bp : BPf} (h : BPrs W H0 E trs bp) : BExp W H0 E (tDisp trs) (bDisp bp) := ⟨fun σ env F H M Q P X c q k => by
  intro p hp
  have m0 := c.st.new hp
  have xl := (Ext.lay (o := HO.dK []) c.st.ok hp).ex2 c.st
  have np := c.st.ok.pne hp
  have nf : ¬ F p := fun f => c.st.ok.tr p f hp
  have x0 : Ex2 W F H M F (upd H p (.dK [])) (M.put p (some (.dK []))) := by
    refine ⟨xl.up, xl.dn, xl.kp, xl.al, fun b hb => ?_, xl.ok.new_cell nf m0 np ⟨[], upd_same, .nil⟩⟩
    by_cases z : b = p
    · rw [z]
      exact .inr hp
    · rw [Sto.put_n z] at hb
      exact .inl hb
  refine h.run σ env F (upd H p (.dK [])) _ _ _ X (c.step x0) (q p m0) fun kds F2 H2 us M2 p2 x2 r2 => ?_
  obtain ⟨e, hM, rfl, hl, p2⟩ := dkQ_at p2
  obtain ⟨nf2, np2, us0, hA, rr⟩ := x2.ok.at_ p _ hM
  cases rr
  refine ⟨hA, us, rfl, by rw [r2.len]; exact hl, ?_⟩
  have sb : Sub F2 H2 F2 (upd H2 p (.dK (mergeK [] us))) := fun c f => ⟨f, upd_ne (fun z => nf2 (by rw [← z]; exact f))⟩
  have x4 := x2.ok.upd_cell (o := .dK (mergeK [] us)) (c1 := .dK (mergeD [] kds)) hM ⟨_, upd_same, (RvKv.merge r2 .nil).sub sb⟩
  exact k (.cell p) F2 _ (.ref p) _ p2 ((x0.trans x2).trans x4) (.cell p)⟩
end
def bMethX (c : Nat) (bsp : BSp) (eo : BEx) (ba : BFr) : BEx := fun env M X P => eo env M X fun x M1 => ceQ x fun a => coQ (M1 a) fun k _ => k = c ∧ ba env M1 X fun ds M2 => bsp (.cell a :: ds) M2 X P
section
variable {K : PySem.W.Frag} {ca : Nat → Addr} {po : Option (Addr × Addr)} {H0 : Hp} {E : XS}
theorem b_methX {n c : Nat} {m : Str} {to : TE} {t : TA} {eo : BEx} {ba : BFr} {bsp : BSp} (hm : m ∉ clsN c) (ho : BExp ⟨K, ca, po⟩ H0 E to eo) (h : BArg ⟨K, ca, po⟩ H0 E n t ba) : BExp ⟨K, ca, po⟩ H0 E (tMethS (ca c) m (toSp2 K ca bsp) E to t) (bMethX c bsp eo ba) :=
  ⟨fun σ env F H M Q P X cf q k => ho.run σ env F H M _ _ X cf q fun d F1 H1 v M1 p1 x1 r1 => by
    cases d with
    | cell a =>
      have e := rv_cell (show Rv ⟨K, ca, po⟩ F1 H1 v (.cell a) from r1)
      subst e
      obtain ⟨kk, ds0, hM, rfl, p3⟩ := coQ_at p1
      obtain ⟨nf, np, dx, fs, hA, lf, rf, no⟩ := x1.ok.at_ a _ hM
      refine ⟨a, dx, fs, rfl, hA, no m fun z => hm (List.mem_of_mem_take z), ?_⟩
      exact h.run σ env F1 H1 M1 _ _ X (cf.step x1) p3 fun ds F2 H2 vs M2 p2 x2 r2 _ =>
        ⟨po, F2, M2, .cell a :: ds, P, X, x2.ok, .cons (.cell a) r2, p2, ((cf.step x1).step x2).x, fun d F' H' M' v p x r => k d F' H' v M' p ((x1.trans x2).trans x) r⟩
    | _ => exact (show False from p1).elim⟩
end
structure MetX (P : Program) (w : World) (K : PySem.W.Frag) (mg : Str → Option Value) (base : Heap) (k : Nat) (C : Addr) (m : Str) (sp : Sp) : Prop where
  ex : ∃ (f : Addr) (fd : FuncData) (ps : List Str), Cls K C ∧ Meth K C m f ∧ FnOk P w K mg base (L2.CX P w) k f fd ps sp ∧ Binds K fd ps []
theorem pe_mX {X : Cx} {m : Str} {C : Addr} {sp : Sp} {W : WX} {o e : Expr} {es : List Expr} {ta : TE} {t : TA} {pos apos : Pos} {k n : Nat} {pl : Sem Bool} (c : MetX X.prog X.w X.K X.mg X.base n C m sp) (tk : Takes X W) (hr : Room k X.A) (hk : n ≤ k) (he : PE X o ta) (ha : PA X (e :: es) t)
    (hst : starEach (e :: es) X.env = (false, eval e X.env) :: starEach es X.env := by rfl) (hpn : (backTo pos (starEach es X.env)).any (·.1) = false := by rfl)
    (ht : eval (.Call (.Attribute o m apos) (e :: es) [] pos) X.env = (do let ov ← eval o X.env; standAt apos.atName; let (f, first) ← holding [ov] (getMethod ov m pl); callWith pos f first (backTo pos (starEach (e :: es) X.env)) (backToKw pos (keywordEach [] X.env))) := by rfl) :
    PE X (.Call (.Attribute o m apos) (e :: es) [] pos) (tMethS C m sp (WE W) ta t) := by
  obtain ⟨f, fd, ps, cl, hm, F, hb⟩ := c.ex
  exact pe_methS (pl := pl) he cl hm F (hr.mono hk) hb (fun σ => passAt tk σ) ha hst hpn ht
def bSeq (q : Dat → (List Dat → Prop) → Prop) (ea : BEx) : BFr := fun env M X P => ea env M X fun x M1 => q x fun ds => P ds M1
def dDQ : Dat → (List (Key × Dat) → Prop) → Prop
  | .dK kds, P => P kds
  | _, _ => False
def stQ : Dat → (Str → Prop) → Prop
  | .str s, P => P s
  | _, _ => False
def aDget2 (ea eb ec : AEx) : AEx := fun env P => ea env fun x => dDQ x fun kds => eb env fun y => ec env fun z => stQ y fun s => P ((dgetD kds (.inr s)).getD z)
theorem pe_gstr {X : Cx} {x s : Str} {pos : Pos} (h : ∃ t, X.mg x = some (.str s t)) (hg : Gl X x := by rfl) (hd : (x == ("__debug__" : Str)) = false := by decide) : PE X (.Name x pos) (tC (.str s)) := by
  obtain ⟨t, h⟩ := h
  exact pe_glob hg h ⟨_, rfl⟩ (hd := hd)
def kMin2 : Dat → Dat → (Dat → Prop) → Prop
  | .int i, .int j, P => P (.int (if j < i then j else i))
  | _, _, _ => False
theorem rok_min2 {W : Wd} : ROk W Rv Rv Rv (fun x y H Q => ∃ i j, [x, y] = [V.int i, .int j] ∧ Q (.int (if j < i then j else i)) H) kMin2 := fun F H x y d e Q P ok r1 r2 q k => by
  cases r1 <;> cases r2 <;> first | exact q.elim | exact ⟨_, _, rfl, k _ F H _ q (.refl ok) (.int _)⟩
theorem kMin2_i {i j : Int} {P : Dat → Prop} : kMin2 (.int i) (.int j) P = P (.int (if j < i then j else i)) := rfl
/-- Kind, Request, Issuer -/
structure KdT (K : PySem.W.Frag) (C : Addr) : Prop where
  cl : Cls K C
  n_name : NoAttr K C "name"
  n_fields : NoAttr K C "fields"
/-- a policy's fields -/
structure PoT (K : PySem.W.Frag) (C : Addr) : Prop where
  cl : Cls K C
  n_cards : NoAttr K C "cards"
  n_conditions : NoAttr K C "conditions"
section
variable {n : Nat} {M : Sto} {a : Addr}
theorem vw_obj {k : Nat} {ds : List Dat} (h : M a = some (.obj k ds)) (l : ds.length = (clsN k).length) : vwD (n + 1) M (.cell a) = .obj k (ds.map (vwD n M)) := by
  unfold vwD
  rw [h]
  exact if_pos l
theorem vw_lst {xs : List Dat} (h : M a = some (.lst xs)) : vwD (n + 1) M (.cell a) = .lst (xs.map (vwD n M)) := by
  unfold vwD
  rw [h]
theorem vw_dK {kvs : List (Key × Dat)} (h : M a = some (.dK kvs)) : vwD (n + 1) M (.cell a) = .dK (kvs.map fun p => (p.1, vwD n M p.2)) := by
  have e : vwD (n + 1) M (.cell a) = match M a with
    | some (.lst xs) => .lst (xs.map (vwD n M))
    | some (.obj k ds) => if ds.length = (clsN k).length then .obj k (ds.map (vwD n M)) else .cell a
    | some (.dK kvs) => .dK (kvs.map fun p => (p.1, vwD n M p.2))
    | some (.dT ks ds) => .dT ks (ds.map (vwD n M))
    | _ => .cell a := rfl
  rw [e, h]
theorem vw_n : vwD n M .non = .non := by cases n <;> rfl
theorem vw_b {b : Bool} : vwD n M (.bl b) = .bl b := by cases n <;> rfl
theorem vw_i {i : Int} : vwD n M (.int i) = .int i := by cases n <;> rfl
theorem vw_s {i : Str} : vwD n M (.str i) = .str i := by cases n <;> rfl
theorem vw_p : vwD n M .pool = .pool := by cases n <;> rfl
theorem vw_l {xs : List Dat} : vwD n M (.lst xs) = .lst xs := by cases n <;> rfl
theorem vw_t {xs : List Dat} : vwD n M (.tup xs) = .tup xs := by cases n <;> rfl
theorem vw_o {k : Nat} {xs : List Dat} : vwD n M (.obj k xs) = .obj k xs := by cases n <;> rfl
theorem vw_d {xs : List (Key × Dat)} : vwD n M (.dK xs) = .dK xs := by cases n <;> rfl
theorem vwS_d {x : Dat} : vwS n M (.d x) = .d (vwD n M x) := rfl
theorem vwS_u : vwS n M .u = .u := rfl
theorem vwS_o {xs : List Dat} : vwS n M (.o xs) = .o xs := rfl
theorem ftD_i {i : Int} : ftD (.int i) = true := rfl
theorem ftD_s {i : Str} : ftD (.str i) = true := rfl
theorem ftD_b {i : Bool} : ftD (.bl i) = true := rfl
theorem ftD_n : ftD .non = true := rfl
theorem ftD_t {xs : List Dat} : ftD (.tup xs) = ftAll xs := rfl
theorem ftAll_n : ftAll [] = true := rfl
theorem ftAll_c {x : Dat} {xs : List Dat} : ftAll (x :: xs) = (ftD x && ftAll xs) := rfl
end
theorem bk_dk {kvs : List (Key × Dat)} {P : List (Key × Dat) → Prop} : dkQ (some (.dK kvs)) P = P kvs := rfl
theorem bk_ks {s : Str} {P : Key → Prop} : ksQ (.str s) P = P (.inr s) := rfl
theorem bk_dd {kvs : List (Key × Dat)} {P : List (Key × Dat) → Prop} : dDQ (.dK kvs) P = P kvs := rfl
theorem bk_st {s : Str} {P : Str → Prop} : stQ (.str s) P = P s := rfl
theorem Sto.pp {M : Sto} {a : Addr} {c d : Option Ce} : (M.put a c).put a d = M.put a d := by
  funext x
  by_cases h : x = a
  · subst h
    rw [Sto.put_s, Sto.put_s]
  · rw [Sto.put_n h, Sto.put_n h, Sto.put_n h]
def kIxS : Dat → Dat → (Dat → Prop) → Prop
  | .str s, .int i, P => s.length ≤ 100000 ∧ ∃ c, atI s.cps.toList i = some c ∧ P (.str ⟨#[c]⟩)
  | _, _, _ => False
theorem rok_ixS {W : Wd} : ROk W Rv Rv Rv rIxS kIxS := fun F H x y d e Q P ok r1 r2 q k => by
  cases r1 with
  | str s =>
    cases r2 with
    | int i =>
      obtain ⟨hl, c, hc, p⟩ := q
      exact ⟨s, i, c, rfl, rfl, Nat.le_of_lt (len_size hl), hc, k _ F H _ p (.refl ok) (.str _)⟩
    | _ => exact (show False from q).elim
  | _ => exact (show False from q).elim
theorem ofS_inj {a b : String} : (Str.ofString a = Str.ofString b) = (a = b) := by
  refine propext ⟨fun h => ?_, fun h => by rw [h]⟩
  rw [Str.ofString_eq_toList, Str.ofString_eq_toList] at h
  injection h with h
  have h : a.toList.map Char.toNat = b.toList.map Char.toNat := by simpa using h
  have inj : ∀ {xs ys : List Char}, xs.map Char.toNat = ys.map Char.toNat → xs = ys := fun {xs} => by
    induction xs with
    | nil =>
      intro ys h
      cases ys with
      | nil => rfl
      | cons y ys => cases h
    | cons x xs ih =>
      intro ys h
      cases ys with
      | nil => cases h
      | cons y ys =>
        rw [List.map_cons, List.map_cons, List.cons.injEq] at h
        rw [ih h.2, Char.toNat_inj.mp h.1]
  exact String.toList_inj.mp (inj h)
theorem kDget_s {kds : List (Key × Dat)} {s : Str} {P : Dat → Prop} : kDget (.dK kds) (.str s) P = oQ (dgetD kds (.inr s)) P := rfl
theorem dg_c {k k' : Key} {d : Dat} {r : List (Key × Dat)} : dgetD ((k', d) :: r) k = if k' = k then some d else dgetD r k := by
  unfold dgetD
  by_cases h : k' = k
  · simp [List.find?_cons, h]
  · simp [List.find?_cons, h]
theorem dg_n {k : Key} : dgetD [] k = none := rfl
theorem kIxS_i {s : Str} {i : Int} {P : Dat → Prop} : kIxS (.str s) (.int i) P = (s.length ≤ 100000 ∧ ∃ c, atI s.cps.toList i = some c ∧ P (.str ⟨#[c]⟩)) := rfl
theorem kInt_bl {b : Bool} {P : Dat → Prop} : kInt (.bl b) P = P (.int (if b = true then 1 else 0)) := rfl
/-- the entries that are made of ds, behind those of acc -/
def lcD (el : Dat → (Option (Dat × Dat) → Prop) → Prop) (P : List (Key × Dat) → Prop) : List Dat → List (Key × Dat) → Prop
  | [], acc => P acc
  | d :: ds, acc => el d fun o => match o with
    | some (x, y) => ksQ x fun k => lcD el P ds (putD acc k y)
    | none => lcD el P ds acc
def elD (ag : ATg) (at_ : ATs) (ek ev : AEx) (env : List Sl) : Dat → (Option (Dat × Dat) → Prop) → Prop := fun d P => ag d env fun env2 => at_ env2 fun b => two b (ek env2 fun x => ev env2 fun y => P (some (x, y))) (P none)
def aDc (ai : AFr) (ag : ATg) (at_ : ATs) (ek ev : AEx) (vs : List Nat) : AEx := fun env P => ai env fun ds => ds.length ≤ 100000 ∧ lcD (elD ag at_ ek ev (wipeA env vs)) (fun kds => P (.dK kds)) ds []
theorem putD_len {kvs : List (Key × Dat)} {k : Key} {d : Dat} : (putD kvs k d).length ≤ kvs.length + 1 := by
  unfold putD
  split
  · rw [List.length_map]
    omega
  · rw [List.length_append, List.length_singleton]
    omega
theorem a_dc {W : Wd} {H0 : Hp} {wi : TI} {g : TG} {tt : TT} {tk tv : TE} {vs : List Nat} {ai : AFr} {ag : ATg} {at_ : ATs} {ek ev : AEx} (hi : AIter W H0 wi ai) (hg : ATgt W H0 vs g ag) (ht : ATst W H0 tt at_) (hk : AExp W H0 tk ek) (he : AExp W H0 tv ev) :
    AExp W H0 (tDc wi g tt tk tv vs) (aDc ai ag at_ ek ev vs) := ⟨fun σ env F H Q P ok m q k => hi.run σ env F H _ _ ok m q fun ds F1 H1 J p1 x1 itk => by
  intro D hD
  obtain ⟨sz, p1⟩ := p1
  have ok1 := x1.ok
  have m1 := m.ext ok x1
  have np : NPc W D := ok1.pne hD
  refine ⟨fun i n H' => n + i = ds.length ∧ ∃ F' acc ys, Ext W F1 H1 F' H' ∧ ¬ F' D ∧ H' D = some (.dK acc) ∧ RvKv W F' H' acc ys ∧ ys.length ≤ i ∧ lcD (elD ag at_ ek ev (wipeA env vs)) (fun kds => P (.dK kds)) (ds.drop i) ys,
    ⟨ds.length, rfl, F1, [], [], Ext.lay ok1 hD, fun f => ok1.tr D f hD, upd_same, .nil, Nat.le_refl _, p1⟩, ?_⟩
  rintro i n H2 ⟨hn, F2, acc, ys, x2, nf, hA, r2, ly, p2⟩
  have ok2 := x2.ok
  by_cases hlt : i < ds.length
  · have hd : ds[i]? = some ds[i] := List.getElem?_eq_getElem hlt
    obtain ⟨go, yl⟩ := itk.it F2 H2 ok2 (x2.sub ok1) i _ hd
    rw [List.drop_eq_getElem_cons hlt] at p2
    refine .inr ⟨go, fun H' => ∃ F' acc ys, Ext W F1 H1 F' H' ∧ ¬ F' D ∧ H' D = some (.dK acc) ∧ RvKv W F' H' acc ys ∧ ys.length ≤ i + 1 ∧ lcD (elD ag at_ ek ev (wipeA env vs)) (fun kds => P (.dK kds)) (ds.drop (i + 1)) ys,
      fun H' ⟨F', acc, ys, rest⟩ => ⟨n - 1, by omega, by omega, F', acc, ys, rest⟩, fun x H3 y => ?_⟩
    obtain ⟨F3, x3, rx⟩ := yl x H3 y
    have x13 := x2.trans ok1 x3
    refine hg.run x _ _ _ F3 H3 _ _ x3.ok ((m1.ext ok1 x13).wipe vs) rx p2 fun env4 σ4 p4 m4 w4 => ?_
    refine ⟨w4.trans (wipe_wipe σ vs), ht.run σ4 env4 F3 H3 _ _ x3.ok m4 p4 fun b F5 H5 p5 x5 => ?_⟩
    have keep : ∀ {Fa Fb : Addr → Prop} {Ha Hb : Hp}, Ext W Fa Ha Fb Hb → ¬ Fa D → Ha D = some (.dK acc) → ¬ Fb D ∧ Hb D = some (.dK acc) := fun {Fa Fb Ha Hb} x nf h => by
      refine ⟨fun f => ?_, x.kp D _ h np.np⟩
      rcases x.dn D f with z | z
      · exact nf z
      · rw [z] at h
        cases h
    obtain ⟨nf3, h3⟩ := keep x3 nf hA
    obtain ⟨nf5, h5⟩ := keep x5 nf3 h3
    have x35 := x3.trans ok2 x5
    have x15 := x2.trans ok1 x35
    cases b with
    | true =>
      rw [if_pos rfl]
      refine hk.run σ4 env4 F5 H5 _ _ x5.ok (m4.ext x3.ok x5) p5 fun dk F6 H6 kv p6 x6 r6 => ?_
      refine he.run σ4 env4 F6 H6 _ _ x6.ok ((m4.ext x3.ok x5).ext x5.ok x6) p6 fun e F7 H7 v p7 x7 r7 => ?_
      obtain ⟨nf6, h6⟩ := keep x6 nf5 h5
      obtain ⟨nf7, h7⟩ := keep x7 nf6 h6
      have x17 := (x15.trans ok1 x6).trans ok1 x7
      have r27 := r2.sub (((x35.trans ok2 x6).trans ok2 x7).sub ok2)
      obtain ⟨kk, rfl, p7⟩ := ksQ_at p7 r6
      have sb : Sub F7 H7 F7 (upd H7 D (.dK (putK acc kk v))) := fun a f => ⟨f, upd_ne (fun z => nf7 (by rw [← z]; exact f))⟩
      refine ⟨acc, kk, rfl, h7, len_size (by rw [r2.len]; omega), F7, _, putD ys kk e, ⟨x17.up, x17.dn, fun a o ha npa => ?_, ⟨fun a f => ?_, fun p c ep => ?_⟩⟩, nf7, upd_same, (r27.put r7).sub sb, Nat.le_trans putD_len (Nat.succ_le_succ ly), p7⟩
      · rw [upd_ne (ne_of_none ha hD)]
        exact x17.kp a o ha npa
      · rw [(sb a f).2]
        exact x17.ok.tr a f
      · obtain ⟨h1, h2, h3⟩ := x17.ok.po p c ep
        exact ⟨h1.mut (np p c ep).1 (np p c ep).2, h2, h3⟩
    | false =>
      rw [if_neg Bool.false_ne_true]
      exact ⟨F5, acc, ys, x15, nf5, h5, r2.sub (x35.sub ok2), by omega, p5⟩
  · have e : i = ds.length := by omega
    subst e
    rw [List.drop_length] at p2
    refine .inl ⟨itk.done F2 H2 ok2 (x2.sub ok1), ?_⟩
    exact k (.dK ys) (fun b => F2 b ∨ b = D) H2 (.ref D) p2 ((x1.trans ok x2).fz ok (x1.there ok hD) hA) (.dK (.inr rfl) hA (r2.sub (sub_fz D)))⟩
theorem dgetD_put {kvs : List (Key × Dat)} {k j : Key} {d : Dat} : dgetD (putD kvs k d) j = if k = j then some d else dgetD kvs j := by
  unfold putD
  by_cases h : (kvs.any fun kv => decide (kv.1 = k)) = true
  · rw [if_pos h]
    induction kvs with
    | nil => cases h
    | cons p r ih =>
      rw [List.map_cons]
      by_cases e : p.1 = k
      · rw [if_pos e]
        subst e
        by_cases z : p.1 = j
        · rw [if_pos z]
          subst z
          simp [dgetD, List.find?_cons]
        · rw [if_neg z]
          have e2 : dgetD ((p.1, d) :: r.map fun kv => if kv.1 = p.1 then (kv.1, d) else kv) j = dgetD (r.map fun kv => if kv.1 = p.1 then (kv.1, d) else kv) j := by simp [dgetD, List.find?_cons, z]
          have e3 : dgetD (p :: r) j = dgetD r j := by simp [dgetD, List.find?_cons, z]
          rw [e2, e3]
          clear e2 e3 ih h
          induction r with
          | nil => rfl
          | cons q t ih =>
            rw [List.map_cons]
            by_cases g : q.1 = p.1
            · rw [if_pos g]
              have z2 : ¬ q.1 = j := fun y => z (g.symm.trans y)
              have e2 : ∀ x t, dgetD ((q.1, x) :: t) j = dgetD t j := fun x t => by simp [dgetD, List.find?_cons, z2]
              rw [e2, show dgetD (q :: t) j = dgetD t j from e2 q.2 t, ih]
            · rw [if_neg g]
              by_cases z2 : q.1 = j
              · simp [dgetD, List.find?_cons, z2]
              · have e2 : ∀ t, dgetD (q :: t) j = dgetD t j := fun t => by simp [dgetD, List.find?_cons, z2]
                rw [e2, e2, ih]
      · rw [if_neg e]
        have h2 : (r.any fun kv => decide (kv.1 = k)) = true := by
          rw [List.any_cons, decide_eq_false e, Bool.false_or] at h
          exact h
        by_cases z : p.1 = j
        · have nk : ¬ k = j := fun y => e (z.trans y.symm)
          rw [if_neg nk]
          simp [dgetD, List.find?_cons, z]
        · have e2 : ∀ t, dgetD (p :: t) j = dgetD t j := fun t => by simp [dgetD, List.find?_cons, z]
          rw [e2, e2, ih h2]
  · rw [if_neg h]
    induction kvs with
    | nil =>
      by_cases z : k = j
      · rw [if_pos z]
        simp [dgetD, List.find?_cons, z]
      · rw [if_neg z]
        simp [dgetD, List.find?_cons, z]
    | cons p r ih =>
      have h2 : ¬ (r.any fun kv => decide (kv.1 = k)) = true := fun y => h (by rw [List.any_cons, y, Bool.or_true])
      have nk : ¬ p.1 = k := fun y => h (by rw [List.any_cons, decide_eq_true y, Bool.true_or])
      rw [List.cons_append]
      by_cases z : p.1 = j
      · rw [if_neg fun y => nk (z.trans y.symm)]
        simp [dgetD, List.find?_cons, z]
      · have e2 : ∀ t, dgetD (p :: t) j = dgetD t j := fun t => by simp [dgetD, List.find?_cons, z]
        rw [e2, e2, ih h2]
def aDIn (n : Bool) (ek ed : AEx) : AEx := fun env P => ek env fun y => ed env fun x => dDQ x fun kds => ksQ y fun k => P (.bl (if n then !(dgetD kds k).isSome else (dgetD kds k).isSome))
theorem RvAll.erase {W : Wd} {F : Addr → Prop} {H : Hp} : ∀ {vs : List V} {ds : List Dat} (n : Nat), RvAll W F H vs ds → RvAll W F H (vs.eraseIdx n) (ds.eraseIdx n)
  | _, _, _, .nil => .nil
  | _, _, 0, .cons _ r => r
  | _, _, n + 1, .cons a r => .cons a (RvAll.erase n r)
def bPop (eo ei : BEx) : BEx := fun env M X P => eo env M X fun x M1 => ceQ x fun a => cQ (M1 a) fun _ => ei env M1 X fun y M2 => inQ y fun j => cQ (M2 a) fun xs => ∃ (n : Nat) (d : Dat), j = (n : Int) ∧ n < 1000000 ∧ xs[n]? = some d ∧ P d (M2.put a (some (.lst (xs.eraseIdx n))))
def bRan (ba : BFr) : BFr := fun env M X P => ba env M X fun ds M1 => match ds with
  | [.int j] => j < 1000000000000 ∧ -1000000000000 < j ∧ P ((List.range j.toNat).map fun (i : Nat) => Dat.int (0 + (i : Int))) M1
  | _ => False
def bMeth2 (c : Nat) (bsp : BSp) (eo : BEx) (ba : BFr) : BEx := fun env M X P => eo env M X fun x M1 => ceQ x fun a => coQ (M1 a) fun k _ => k = c ∧ ba env M1 X fun ds M2 => bsp (.cell a :: ds) M2 X0 P
theorem b_meth2 {K : PySem.W.Frag} {ca : Nat → Addr} {po : Option (Addr × Addr)} {H0 : Hp} {E : XS} {n c : Nat} {m : Str} {to : TE} {t : TA} {E' : XK} {eo : BEx} {ba : BFr} {bsp : BSp} (hm : m ∉ clsN c) (ho : BExp ⟨K, ca, po⟩ H0 E to eo) (h : BArg ⟨K, ca, po⟩ H0 E n t ba) : BExp ⟨K, ca, po⟩ H0 E (tMeth (ca c) m (toSp2 K ca bsp) [] E' to t) (bMeth2 c bsp eo ba) :=
  ⟨fun σ env F H M Q P X cf q k => ho.run σ env F H M _ _ X cf q fun d F1 H1 v M1 p1 x1 r1 => by
    cases d with
    | cell a =>
      have e := rv_cell (show Rv ⟨K, ca, po⟩ F1 H1 v (.cell a) from r1)
      subst e
      obtain ⟨kk, ds0, hM, rfl, p3⟩ := coQ_at p1
      obtain ⟨nf, np, dx, fs, hA, lf, rf, no⟩ := x1.ok.at_ a _ hM
      refine ⟨a, dx, fs, rfl, hA, no m fun z => hm (List.mem_of_mem_take z), ?_⟩
      exact h.run σ env F1 H1 M1 _ _ X (cf.step x1) p3 fun ds F2 H2 vs M2 p2 x2 r2 _ => by
        rw [List.append_nil]
        exact ⟨po, F2, M2, .cell a :: ds, P, X0, x2.ok, .cons (.cell a) r2, p2, .zero, fun d F' H' M' v p x r => k d F' H' v M' p ((x1.trans x2).trans x) r⟩
    | _ => exact (show False from p1).elim⟩
/-- a datum as it stands now, cells opened also within data, so many deep -/
def vwX : Nat → Sto → Dat → Dat
  | 0, _, d => d
  | n + 1, M, .cell a => match M a with
    | some (.lst xs) => .lst (xs.map (vwX n M))
    | some (.obj k ds) => if ds.length = (clsN k).length then .obj k (ds.map (vwX n M)) else .cell a
    | some (.dK kvs) => .dK (kvs.map fun p => (p.1, vwX n M p.2))
    | some (.dT ks ds) => .dT ks (ds.map (vwX n M))
    | _ => .cell a
  | n + 1, M, .lst xs => .lst (xs.map (vwX n M))
  | n + 1, M, .tup xs => .tup (xs.map (vwX n M))
  | n + 1, M, .obj k ds => .obj k (ds.map (vwX n M))
  | n + 1, M, .dK kvs => .dK (kvs.map fun p => (p.1, vwX n M p.2))
  | n + 1, M, .dT ks ds => .dT ks (ds.map (vwX n M))
  | _ + 1, _, .non => .non
  | _ + 1, _, .bl b => .bl b
  | _ + 1, _, .int i => .int i
  | _ + 1, _, .str s => .str s
  | _ + 1, _, .pool => .pool
  | _ + 1, _, .rng lo hi => .rng lo hi
section
variable {W : Wd} {F : Addr → Prop} {H : Hp} {M : Sto}
theorem vwX_ok (ok : SoOk W F H M) : ∀ (n : Nat) (v : V) (d : Dat), Rv W F H v d → Rv W (Pls F M) H v (vwX n M d)
  | 0, v, d, r => r.sub sub_pls
  | n + 1, v, d, r => by
    cases d with
    | cell a =>
      have e := rv_cell r
      subst e
      show Rv W (Pls F M) H (.ref a) (match M a with
        | some (.lst xs) => .lst (xs.map (vwX n M))
        | some (.obj k ds) => if ds.length = (clsN k).length then .obj k (ds.map (vwX n M)) else .cell a
        | some (.dK kvs) => .dK (kvs.map fun p => (p.1, vwX n M p.2))
        | some (.dT ks ds) => .dT ks (ds.map (vwX n M))
        | _ => .cell a)
      cases e : M a with
      | none => exact .cell a
      | some c =>
        have pa : Pls F M a := .inr (by rw [e]; exact fun z => by cases z)
        cases c with
        | lst xs =>
          obtain ⟨_, _, vs, h, r⟩ := ok.at_ a _ e
          exact .lst pa h (r.vw (vwX_ok ok n))
        | obj k ds =>
          obtain ⟨_, _, dx, fs, h, _, r, no⟩ := ok.at_ a _ e
          show Rv W (Pls F M) H (.ref a) (if ds.length = (clsN k).length then .obj k (ds.map (vwX n M)) else .cell a)
          by_cases z : ds.length = (clsN k).length
          · rw [if_pos z]
            rw [z, List.take_length] at r no
            exact .obj pa h (r.vw (vwX_ok ok n)) no
          · rw [if_neg z]
            exact .cell a
        | dK kvs =>
          obtain ⟨_, _, us, h, r⟩ := ok.at_ a _ e
          exact .dK pa h (r.vw (vwX_ok ok n))
        | dT ks ds =>
          obtain ⟨_, _, xs, vs, h, k, g, l, r⟩ := ok.at_ a _ e
          exact .dT pa h k (fun x hx => (g x hx).sub sub_pls) l (r.vw (vwX_ok ok n))
        | xd _ _ => exact .cell a
    | lst xs =>
      cases r with
      | lst f h r => exact .lst (.inl f) h (r.vw (vwX_ok ok n))
    | tup xs =>
      cases r with
      | tup h r => exact .tup (h.sub sub_pls) (r.vw (vwX_ok ok n))
    | obj k ds =>
      cases r with
      | obj f h r no => exact .obj (.inl f) h (r.vw (vwX_ok ok n)) no
    | dK kvs =>
      cases r with
      | dK f h r => exact .dK (.inl f) h (r.vw (vwX_ok ok n))
    | dT ks ds =>
      cases r with
      | dT f h k g l r => exact .dT (.inl f) h k (fun x hx => (g x hx).sub sub_pls) l (r.vw (vwX_ok ok n))
    | non => exact r.sub sub_pls
    | bl b => exact r.sub sub_pls
    | int i => exact r.sub sub_pls
    | str s => exact r.sub sub_pls
    | pool => exact r.sub sub_pls
    | rng lo hi => exact r.sub sub_pls
end
/-- a slot as it was, or opened -/
def SlX (M : Sto) (s t : Sl) : Prop := t = s ∨ ∃ n d, s = .d d ∧ t = .d (vwX n M d)
inductive SlsX (M : Sto) : List Sl → List Sl → Prop
  | nil : SlsX M [] []
  | cons {s t : Sl} {ss ts : List Sl} : SlX M s t → SlsX M ss ts → SlsX M (s :: ss) (t :: ts)
theorem SlsX.len {M : Sto} : ∀ {ss ts : List Sl}, SlsX M ss ts → ts.length = ss.length
  | _, _, .nil => rfl
  | _, _, .cons _ r => congrArg (· + 1) r.len
theorem SlsX.get {M : Sto} : ∀ {ss ts : List Sl} {i : Nat} {t : Sl}, SlsX M ss ts → ts[i]? = some t → ∃ s, ss[i]? = some s ∧ SlX M s t
  | _, _, _, _, .nil, e => by simp at e
  | _, _, 0, _, .cons a _, e => by
    rw [List.getElem?_cons_zero] at e
    cases e
    exact ⟨_, rfl, a⟩
  | _, _, i + 1, _, .cons _ r, e => by
    rw [List.getElem?_cons_succ] at e
    obtain ⟨s, h1, h2⟩ := SlsX.get (i := i) r e
    exact ⟨s, h1, h2⟩
theorem SlX.own {M : Sto} {s : Sl} {xs : List Dat} (h : SlX M s (.o xs)) : s = .o xs := by
  rcases h with e | ⟨_, _, _, e⟩
  · exact e.symm
  · cases e
/-- from here on no cell changes any more -/
def zStl (bs : BSt) : BSt := fun D env M => ∃ env', SlsX M env env' ∧ bs D env' (fun _ => none)
theorem z_stl {W : Wd} {E : XS} {ts : TS} {bs : BSt} (h1 : BStm W E ts bs) : BStm W E ts (zStl bs) := ⟨fun F0 H0 M0 F1 H1 De Da σ env F H M c k ⟨env', hs, h⟩ => by
  have ok := c.b.ex.ok
  have sb : Sub F H (Pls F M) H := sub_pls
  refine h1.run F0 H0 M0 F1 H1 De Da σ env' (Pls F M) H (fun _ => none) ⟨⟨⟨fun a f => .inl (c.b.ex.up a f), fun a f => ?_, fun a o e n m => c.b.ex.kp a o e n m, c.b.ex.al, fun a h => absurd rfl h, ⟨ok.pls, fun a cc e => by cases e⟩⟩, c.b.sb.trans sb⟩, ?_⟩ k h
  · rcases f with f | f
    · exact c.b.ex.dn a f
    · rcases c.b.ex.md a f with z | z
      · exact .inr (.inr z)
      · exact .inr (.inl z)
  · refine ⟨by rw [hs.len, c.m.ln], fun i t e => ?_, fun i j xs ys a e1 e2 e3 e4 => ?_⟩
    · obtain ⟨s, es, hx⟩ := hs.get e
      obtain ⟨ov, e1, r⟩ := c.m.at_ i s es
      refine ⟨ov, e1, ?_⟩
      rcases hx with rfl | ⟨n, d, rfl, rfl⟩
      · cases t with
        | u => trivial
        | d y =>
          obtain ⟨v, e, r⟩ := r
          exact ⟨v, e, r.sub sb⟩
        | o xs =>
          obtain ⟨a, vs, e, nf, n0, h, r, np⟩ := r
          obtain ⟨m0, n0⟩ := mask_none.mp n0
          exact ⟨a, vs, e, (fun f => f.elim nf fun f => f m0), mask_none.mpr ⟨rfl, n0⟩, h, r.sub sb, np⟩
      · obtain ⟨v, e, r⟩ := r
        exact ⟨v, e, vwX_ok ok n v d r⟩
    · obtain ⟨s, es, hx⟩ := hs.get e1
      obtain ⟨s2, es2, hx2⟩ := hs.get e2
      obtain rfl := hx.own
      obtain rfl := hx2.own
      exact c.m.own i j xs ys a es es2 e3 e4⟩
section
variable {n : Nat} {M : Sto} {a : Addr}
theorem vx_lst {xs : List Dat} (h : M a = some (.lst xs)) : vwX (n + 1) M (.cell a) = .lst (xs.map (vwX n M)) := by
  unfold vwX
  rw [h]
end
def dgT : List (List Int) → List Dat → List Int → Option Dat
  | k :: ks, d :: ds, j => if k = j then some d else dgT ks ds j
  | _, _, _ => none
def intsD : List Dat → Option (List Int)
  | [] => some []
  | .int i :: xs => (intsD xs).map (i :: ·)
  | _ :: _ => none
def ktQ : Dat → (List Int → Prop) → Prop
  | .tup xs, P => oI (intsD xs) P
  | _, _ => False
where oI : Option (List Int) → (List Int → Prop) → Prop
  | some k, P => P k
  | none, _ => False
def dTQ : Dat → (List (List Int) → List Dat → Prop) → Prop
  | .dT ks ds, P => P ks ds
  | _, _ => False
section
variable {W : Wd} {H0 : Hp} {ta tb : TE} {ea eb : AEx} {F : Addr → Prop} {H : Hp}
def kTGet (x y : Dat) (P : Dat → Prop) : Prop := dTQ x fun ks ds => ktQ y fun k => oQ (dgT ks ds k) P
def aTIn (n : Bool) (ek ed : AEx) : AEx := fun env P => ek env fun y => ed env fun x => dTQ x fun ks ds => ktQ y fun k => P (.bl (if n then !(dgT ks ds k).isSome else (dgT ks ds k).isSome))
end
theorem ktQ_2 {i j : Int} {P : List Int → Prop} : ktQ (.tup [.int i, .int j]) P = P [i, j] := rfl
theorem dTQ_d {ks : List (List Int)} {ds : List Dat} {P : List (List Int) → List Dat → Prop} : dTQ (.dT ks ds) P = P ks ds := rfl
def dtQ (o : Option Ce) (P : List (List Int) → List Dat → Prop) : Prop := match o with
  | some (.dT ks ds) => P ks ds
  | _ => False
theorem dtQ_d {ks : List (List Int)} {ds : List Dat} {P : List (List Int) → List Dat → Prop} : dtQ (some (.dT ks ds)) P = P ks ds := rfl
/-- an entry put: at its place, or at the end -/
def putTK (ks : List (List Int)) (k : List Int) : List (List Int) := if k ∈ ks then ks else ks ++ [k]
def putTD : List (List Int) → List Dat → List Int → Dat → List Dat
  | k :: ks, d :: ds, j, e => if k = j then e :: ds else d :: putTD ks ds j e
  | _, _, _, e => [e]
def bTNew : BEx := fun _ M _ P => ∀ p, M p = none → P (.cell p) (M.put p (some (.dT [] [])))
def zTPut (ev eo ek : BEx) : BSt := fun D env M => ev env M (D.ex env) fun d M1 => eo env M1 (D.ex env) fun x M2 => ek env M2 (D.ex env) fun y M3 => ceQ x fun a => ktQ y fun k => dtQ (M3 a) fun ks ds => ks.length < 1000 ∧ D.nx env (M3.put a (some (.dT (putTK ks k) (putTD ks ds k d))))
def kIsLT : Dat → (Dat → Prop) → Prop := fun d P => match d with
  | .lst _ => P (.bl true)
  | .tup _ => P (.bl true)
  | .non => P (.bl false)
  | .bl _ => P (.bl false)
  | .int _ => P (.bl false)
  | .str _ => P (.bl false)
  | _ => False
theorem kitLT {K : PySem.W.Frag} : ∀ n ∈ ["NoneType", "bool", "int", "str", "list", "tuple"], PySem.W.kitAny K (.type n) [.type "list", .type "tuple"] = some (decide (n = "list" ∨ n = "tuple")) := fun n hn => by
  have h1 := kit_ty (K := K) (kitB_all n hn "list" (by decide))
  have h2 := kit_ty (K := K) (kitB_all n hn "tuple" (by decide))
  simp only [List.mem_cons, List.mem_nil_iff, or_false] at hn
  rcases hn with rfl | rfl | rfl | rfl | rfl | rfl
  · exact kitAny_cons h1 (fun _ => kitAny_cons h2 (fun _ => rfl) (fun e => by revert e; decide)) (fun e => by revert e; decide)
  · exact kitAny_cons h1 (fun _ => kitAny_cons h2 (fun _ => rfl) (fun e => by revert e; decide)) (fun e => by revert e; decide)
  · exact kitAny_cons h1 (fun _ => kitAny_cons h2 (fun _ => rfl) (fun e => by revert e; decide)) (fun e => by revert e; decide)
  · exact kitAny_cons h1 (fun _ => kitAny_cons h2 (fun _ => rfl) (fun e => by revert e; decide)) (fun e => by revert e; decide)
  · exact kitAny_cons h1 (fun e => absurd e (by decide)) (fun _ => rfl)
  · exact kitAny_cons h1 (fun _ => kitAny_cons h2 (fun e => absurd e (by decide)) (fun _ => rfl)) (fun e => by revert e; decide)
theorem a_isLT {W : Wd} {H0 : Hp} {ta : TE} {ea : AEx} (ha : AExp W H0 ta ea) : AExp W H0 (tCB (rIsiT W.K) (tCons ta (tCons (tTup (tCons (tC (.ty "list")) (tCons (tC (.ty "tuple")) tNil))) tNil))) (a1 kIsLT ea) := ⟨fun σ env F H Q P ok m q k => ha.run σ env F H _ _ ok m q fun d F1 H1 v p1 x1 r1 => by
  refine ⟨Nat.le_of_lt (len_size (by decide)), fun tp hn => ?_⟩
  have x2 : Ext W F1 H1 F1 (upd H1 tp (.tup [V.ty "list", V.ty "tuple"])) := Ext.lay x1.ok hn
  have pc : Paired ClsV [V.ty "list", V.ty "tuple"] [.type "list", .type "tuple"] := .cons (.ty _) (.cons (.ty _) .nil)
  have up : ∀ {b : Addr} {o : HO}, H1 b = some o → upd H1 tp (.tup [V.ty "list", V.ty "tuple"]) b = some o := fun {b o} h => by rw [upd_ne (ne_of_none h hn)]; exact h
  cases r1 with
  | non => exact ⟨_, tp, _, _, _, _, rfl, upd_same, pc, .base .non, kitLT "NoneType" (by decide), k _ F1 _ _ p1 (x1.trans ok x2) (.bl _)⟩
  | bl b => exact ⟨_, tp, _, _, _, _, rfl, upd_same, pc, .base (.bl b), kitLT "bool" (by decide), k _ F1 _ _ p1 (x1.trans ok x2) (.bl _)⟩
  | int b => exact ⟨_, tp, _, _, _, _, rfl, upd_same, pc, .base (.int b), kitLT "int" (by decide), k _ F1 _ _ p1 (x1.trans ok x2) (.bl _)⟩
  | str b => exact ⟨_, tp, _, _, _, _, rfl, upd_same, pc, .base (.str b), kitLT "str" (by decide), k _ F1 _ _ p1 (x1.trans ok x2) (.bl _)⟩
  | lst f h r => exact ⟨_, tp, _, _, _, _, rfl, upd_same, pc, .base (.lst (up h)), kitLT "list" (by decide), k _ F1 _ _ p1 (x1.trans ok x2) (.bl _)⟩
  | tup h r =>
    obtain ⟨fa, o, ho, ob, hd, rfl⟩ := h
    exact ⟨_, tp, _, _, _, _, rfl, upd_same, pc, .fTuple (up ho), kitLT "tuple" (by decide), k _ F1 _ _ p1 (x1.trans ok x2) (.bl _)⟩
  | _ => exact (show False from p1).elim⟩
theorem kIsLT_l {xs : List Dat} {P : Dat → Prop} : kIsLT (.lst xs) P = P (.bl true) := rfl
theorem kIsLT_t {xs : List Dat} {P : Dat → Prop} : kIsLT (.tup xs) P = P (.bl true) := rfl
theorem kIsLT_i {i : Int} {P : Dat → Prop} : kIsLT (.int i) P = P (.bl false) := rfl
theorem kIsLT_s {i : Str} {P : Dat → Prop} : kIsLT (.str i) P = P (.bl false) := rfl
def gStA (n : Nat) (ag : List Dat → List Sl → (List Sl → Prop) → Prop) : ATg := fun d env P => tQ d fun ds => n ≤ ds.length ∧ ds.length ≤ 10000 ∧ ag (ds.take n ++ [.lst (ds.drop n)]) env P
def aRng (aa : AFr) : AEx := fun env P => aa env fun ds => match ds with
  | [.int j] => P (.rng 0 j)
  | _ => False
def iRngA (ea : AEx) : AFr := fun env P => ea env fun x => match x with
  | .rng lo j => lo = 0 ∧ j < 1000000000000 ∧ -1000000000000 < j ∧ P ((List.range j.toNat).map fun (i : Nat) => Dat.int (0 + (i : Int)))
  | _ => False
def aLrng (aa : AFr) : AFr := fun env P => aa env fun ds => match ds with
  | [.int i, .int j] => (-1000000000000 < i ∧ i < 1000000000000 ∧ -1000000000000 < j ∧ j < 1000000000000) ∧ (j - i).toNat ≤ 10000 ∧ P ((List.range (j - i).toNat).map fun (n : Nat) => Dat.int (i + (n : Int)))
  | _ => False
namespace HM
open PySem PySem.Spec PyProof.Rows L2
/-- what an object leads to: a namespace's values, a def's code, a class's namespace -/
def refsM (o : Obj) : List Addr := match o.data with
  | .dict es _ => es.toList.flatMap fun e => He.refV e.val
  | .func fd => He.refV fd.code
  | .cls cd => [cd.ns]
  | _ => []
def asM (g : Addr → Option Obj) : Nat → List Addr → List Addr
  | 0, as => as
  | n + 1, as => as ++ asM g n (as.flatMap fun a => match g a with
    | some o => refsM o
    | none => [])
abbrev Ex : Type := List (List (PySem.W.Frag → Bool))
def exB (ex : Ex) (K : PySem.W.Frag) : Bool := ex.all fun l => l.all fun f => f K
def obsK (ex : Ex) (fn : List He.FnD) (K : PySem.W.Frag) : He.Al := (exB ex K && fn.all fun d => (He.Fa.code d.at_ d.qual).ok K, fn.map fun d => He.fnObs K d.at_)
def obsM (ex : Ex) (fn : List He.FnD) (g : Addr → Option Obj) : He.Al := obsK ex fn (He.frG g (asM g 4 [mainGlobals]))
def Says (ex : Ex) (fn : List He.FnD) (K : PySem.W.Frag) : Prop := obsK ex fn K = He.valE fn
def hook (ex : Ex) (fn : List He.FnD) : PySem.W.Hook where
  α := He.Al
  obs := fun s => obsM ex fn s.heap.get?
  val := fun _ => He.valE fn
  says := fun _ h => ∃ K : PySem.W.Frag, K.In h ∧ Says ex fn K
  of := fun _ _ e => ⟨_, He.frG_in, e⟩
  keeps := fun _ _ _ ⟨K, hK, c⟩ k => ⟨K, PySem.W.Frag.In.keeps hK k, c⟩
theorem obs_eq {ex : Ex} {fn : List He.FnD} {g : Addr → Option Obj} {s : Shared} (h : ∀ a, g a = s.heap.get? a) : obsM ex fn g = (hook ex fn).obs s := by
  have e : g = s.heap.get? := funext h
  rw [e] <;> rfl
section
variable {ex : Ex} {fn : List He.FnD} {K : PySem.W.Frag}
theorem Says.row (c : Says ex fn K) (i j : Nat) {l : List (PySem.W.Frag → Bool)} {f : PySem.W.Frag → Bool} (h : ex[i]? = some l) (k : l[j]? = some f) : f K = true := by
  have c1 := (He.ba (show (exB ex K && fn.all fun d => (He.Fa.code d.at_ d.qual).ok K) = true from congrArg (fun z : He.Al => z.1) c)).1
  exact List.all_eq_true.mp (List.all_eq_true.mp c1 l (List.mem_of_getElem? h)) f (List.mem_of_getElem? k)
theorem Says.def_ (c : Says ex fn K) (i : Nat) {d : He.FnD} (h : fn[i]? = some d) :
    ∃ oc od osl kV doc pm an cdv ct, K.lookup (He.fAd K d.at_) = some ⟨oc, od, .func (PySem.W.fnOf d.name d.qual d.params d.body d.scope .none kV doc pm an cdv ct), osl⟩ ∧ PySem.W.codeIn K cdv d.qual = true := by
  have c2 := (He.ba (show (exB ex K && fn.all fun d => (He.Fa.code d.at_ d.qual).ok K) = true from congrArg (fun z : He.Al => z.1) c)).2
  have e : fn.map (fun d => He.fnObs K d.at_) = fn.map He.FnD.val := congrArg (fun z : He.Al => z.2) c
  have e2 : (fn.map fun d => He.fnObs K d.at_)[i]? = (fn.map He.FnD.val)[i]? := by rw [e]
  rw [List.getElem?_map, List.getElem?_map, h] at e2
  exact He.fn_ok (Option.some.inj e2) (List.all_eq_true.mp c2 d (List.mem_of_getElem? h))
end
/-- the token of a constant of the module -/
def tokG (K : PySem.W.Frag) (x : Str) : Tok := match PySem.W.nsIn K mainGlobals x with
  | some (some (.int _ t)) => t
  | some (some (.str _ t)) => t
  | _ => default
/-- an error class of ValueError's making -/
def excB (K : PySem.W.Frag) (C : Addr) : Bool := match K.lookup C with
  | some ⟨.type "type", _, .cls cd, sl⟩ => (match cd.mro, sl.toList with
    | .ref C' :: bm, [_, _, _, _, some (.builtin n), _] => C' == C && n == "ValueError.__new__" && !cd.hasDel && cd.hasDict && PySem.HandSPX.refsVE bm
    | _, _ => false)
  | _ => false
theorem excB_ok {K : PySem.W.Frag} {C : Addr} (q : excB K C = true) : ∃ nm qn N bs bm sn sub ab col dd k0 k1 k2 k3 k5, K.lookup C = some (excClassObj nm qn C N bs bm true sn sub ab col dd k0 k1 k2 k3 k5 "ValueError.__new__") ∧ PySem.HandSPX.refsVE bm = true := by
  unfold excB at q
  split at q
  · rename_i dd cd sl ho
    split at q
    · rename_i C' bm k0 k1 k2 k3 n k5 hm hs
      simp only [Bool.and_eq_true, beq_iff_eq, Bool.not_eq_true'] at q
      obtain ⟨⟨⟨⟨rfl, rfl⟩, hdel⟩, hd⟩, hr⟩ := q
      obtain ⟨nm, bs, mro, ns, qn, hdd, sn, sub, ab, col, del⟩ := cd
      dsimp only at hm hdel hd
      subst hm hdel hd
      have hsl : sl = #[k0, k1, k2, k3, some (.builtin "ValueError.__new__"), k5] := by
        obtain ⟨l⟩ := sl
        simp only at hs
        rw [hs]
      subst hsl
      exact ⟨nm, qn, ns, bs, bm, sn, sub, ab, col, dd, k0, k1, k2, k3, k5, ho, hr⟩
    · cases q
  · cases q
/-- a tuple of these texts -/
def valsB : List Str → List Value → Bool
  | [], [] => true
  | y :: ys, .str z _ :: us => y == z && valsB ys us
  | _, _ => false
def gtB (K : PySem.W.Frag) (a : Addr) (ys : List Str) : Bool := match K.lookup a with
  | some o => (match o.cls, o.data with
    | .type n, .seq its _ => n == "tuple" && (decide (its.size ≤ sizeLine) && valsB ys its.toList)
    | _, _ => false)
  | none => false
end HM
/-- I: the turn's measure, and what holds ahead of it -/
def zWhile (c : BTs) (b : BSt) : BSt := fun D env M => ∃ I : Nat → List Sl → Sto → Prop, (∃ n, I n env M) ∧ ∀ n env M, I n env M → c env M (D.ex env) fun t M1 =>
  two t (b { D with nx := fun env' M' => ∃ m, m < n ∧ I m env' M', ct := fun env' M' => ∃ m, m < n ∧ I m env' M', bk := D.nx } env M1) (D.nx env M1)
theorem z_while {W : Wd} {E : XS} {t : TT} {cb : BTs} {ts : TS} {bs : BSt} (ht : ∀ H0, BTst W H0 E t cb) (h1 : BStm W E ts bs) : BStm W E (tWhile t ts) (zWhile cb bs) := ⟨fun F0 H0 M0 F1 H1 De Da σ env F H M c k ⟨I, ⟨n, i0⟩, h⟩ => by
  refine ⟨fun m σ' H' => ∃ env' F' M', BCf W F0 H0 M0 F1 H1 F' H' M' σ' env' ∧ I m env' M', ⟨n, env, F, M, c, i0⟩, ?_⟩
  rintro m σ2 H2 ⟨env2, F2, M2, c2, i2⟩
  refine (ht H0).run σ2 env2 F2 H2 M2 _ _ _ (c2.cfg k) (h m env2 M2 i2) fun t F3 H3 M3 p x => ?_
  have c3 := c2.step x
  cases t with
  | true =>
    rw [if_pos rfl]
    refine ⟨fun σ' H' => ∃ env' F' M', BCf W F0 H0 M0 F1 H1 F' H' M' σ' env' ∧ ∃ m', m' < m ∧ I m' env' M', fun σ' H' ⟨env', F', M', c', m', l, i⟩ => ⟨m', l, env', F', M', c', i⟩, ?_⟩
    exact h1.run F0 H0 M0 F3 H3 _ { Da with nx := fun env' M' => ∃ m', m' < m ∧ I m' env' M', ct := fun env' M' => ∃ m', m' < m ∧ I m' env' M', bk := Da.nx } σ2 env2 F3 H3 M3 ⟨⟨c3.b.ex, Sub.refl _ _⟩, c3.m⟩
      ⟨fun σ env F H M b m h => ⟨env, F, M, ⟨⟨b.ex, c3.b.sb.trans b.sb⟩, m⟩, h⟩, fun v d F H M b => k.rt v d F H M ⟨b.ex, c3.b.sb.trans b.sb⟩, fun σ env F H M b => k.nx σ env F H M ⟨b.ex, c3.b.sb.trans b.sb⟩,
        fun σ env F H M b m h => ⟨env, F, M, ⟨⟨b.ex, c3.b.sb.trans b.sb⟩, m⟩, h⟩, fun σ env F H M b => k.ex σ env F H M ⟨b.ex, c3.b.sb.trans b.sb⟩⟩ p
  | false =>
    rw [if_neg Bool.false_ne_true]
    exact k.nx σ2 env2 F3 H3 M3 c3.b c3.m p⟩
def txQ : Dat → (Str → Prop) → Prop
  | .str a, P => P a
  | _, _ => False
theorem txQ_s {a : Str} {P : Str → Prop} : txQ (.str a) P = P a := rfl
theorem txQ_at {W : Wd} {F : Addr → Prop} {H : Hp} {v : V} {d : Dat} {P : Str → Prop} (h : txQ d P) (r : Rv W F H v d) : ∃ a, v = .str a ∧ d = .str a ∧ P a := by
  cases r with
  | str a => exact ⟨a, rfl, rfl, h⟩
  | _ => exact (show False from h).elim
theorem rv_strs {W : Wd} {F : Addr → Prop} {H : Hp} : ∀ (ys : List Str), RvAll W F H (ys.map V.str) (ys.map Dat.str)
  | [] => .nil
  | y :: ys => .cons (.str y) (rv_strs ys)
theorem rv_strs_of {W : Wd} {F : Addr → Prop} {H : Hp} : ∀ {ys : List Str} {vs : List V}, RvAll W F H vs (ys.map Dat.str) → vs = ys.map V.str
  | [], _, r => by
    cases r
    rfl
  | y :: ys, _, r => by
    rw [List.map_cons] at r
    cases r with
    | cons h t =>
      cases h
      rw [rv_strs_of t]
      rfl
def aSplit (eo ee : AEx) : AFr := fun env P => eo env fun x => txQ x fun a => ee env fun y => txQ y fun b => (b.length == 0) = false ∧ a.length + 2 ≤ sizeLine ∧ P ((Txt.split a b).map Dat.str)
/-- the texts of a list or a tuple -/
def strsD : List Dat → Option (List Str)
  | [] => some []
  | .str s :: xs => (strsD xs).map (s :: ·)
  | _ :: _ => none
theorem strsD_eq : ∀ {xs : List Dat} {ys : List Str}, strsD xs = some ys → xs = ys.map Dat.str
  | [], _, e => by
    cases e
    rfl
  | .str s :: xs, _, e => by
    have e : (strsD xs).map (s :: ·) = some _ := e
    cases g : strsD xs with
    | none =>
      rw [g] at e
      cases e
    | some zs =>
      rw [g] at e
      cases e
      rw [strsD_eq g]
      rfl
  | .non :: _, _, e => by cases e
  | .bl _ :: _, _, e => by cases e
  | .int _ :: _, _, e => by cases e
  | .pool :: _, _, e => by cases e
  | .lst _ :: _, _, e => by cases e
  | .tup _ :: _, _, e => by cases e
  | .obj _ _ :: _, _, e => by cases e
  | .dK _ :: _, _, e => by cases e
  | .dT _ _ :: _, _, e => by cases e
  | .rng _ _ :: _, _, e => by cases e
  | .cell _ :: _, _, e => by cases e
theorem strsD_map : ∀ (ys : List Str), strsD (ys.map Dat.str) = some ys
  | [] => rfl
  | y :: ys => by
    show (strsD (ys.map Dat.str)).map (y :: ·) = _
    rw [strsD_map ys]
    rfl
def aJoin (eo ee : AEx) : AEx := fun env P => eo env fun x => txQ x fun a => ee env fun y => sQ y fun xs => match strsD xs with
  | some ys => (ys.map (·.length)).sum + ys.length * a.length ≤ 16777216 ∧ P (.str (Txt.join a ys))
  | none => False
section
variable {W : Wd} {H0 : Hp} {to te : TE} {eo ee : AEx}
theorem a_split (ho : AExp W H0 to eo) (he : AExp W H0 te ee) : AFrs W H0 (tM1 (fun x xs H Q => ∃ a b, x = .str a ∧ xs = [.str b] ∧ (b.length == 0) = false ∧ a.length + 2 ≤ sizeLine ∧ rNewStrs (Txt.split a b) H Q) to te) (aSplit eo ee) := ⟨fun σ env F H Q P ok m q k => ho.run σ env F H _ _ ok m q fun d F1 H1 v p1 x1 r1 => by
  obtain ⟨a, rfl, rfl, p1⟩ := txQ_at p1 r1
  refine ⟨⟨a, rfl⟩, he.run σ env F1 H1 _ _ x1.ok (m.ext ok x1) p1 fun e F2 H2 u p2 x2 r2 => ?_⟩
  obtain ⟨b, rfl, rfl, h1, h2, p3⟩ := txQ_at p2 r2
  refine ⟨a, b, rfl, rfl, h1, h2, fun p hp => ?_⟩
  have x3 : Ext W F2 H2 F2 (upd H2 p (.lst ((Txt.split a b).map V.str))) := Ext.lay x2.ok hp
  exact k _ _ _ p _ p3 ((x1.trans ok x2).trans ok x3) ((x1.trans ok x2).there ok hp) (fun f => x2.ok.tr p f hp) upd_same (rv_strs _)⟩
theorem a_join (ho : AExp W H0 to eo) (he : AExp W H0 te ee) : AExp W H0 (tM1 (fun x xs H Q => ∃ a p, ∃ ys : List Str, x = .str a ∧ xs = [.ref p] ∧ (SqL W.K H p (ys.map V.str) ∨ SqT W.K H p (ys.map V.str)) ∧ (ys.map (·.length)).sum + ys.length * a.length ≤ 16777216 ∧ Q (.str (Txt.join a ys)) H) to te) (aJoin eo ee) := ⟨fun σ env F H Q P ok m q k => ho.run σ env F H _ _ ok m q fun d F1 H1 v p1 x1 r1 => by
  obtain ⟨a, rfl, rfl, p1⟩ := txQ_at p1 r1
  refine ⟨⟨a, rfl⟩, he.run σ env F1 H1 _ _ x1.ok (m.ext ok x1) p1 fun e F2 H2 u p2 x2 r2 => ?_⟩
  have go : ∀ {xs : List Dat} {vs : List V}, RvAll W F2 H2 vs xs → (match strsD xs with | some ys => (ys.map (·.length)).sum + ys.length * a.length ≤ 16777216 ∧ P (.str (Txt.join a ys)) | none => False) → ∃ ys : List Str, vs = ys.map V.str ∧ (ys.map (·.length)).sum + ys.length * a.length ≤ 16777216 ∧ P (.str (Txt.join a ys)) := fun {xs vs} r h => by
    cases g : strsD xs with
    | none =>
      rw [g] at h
      exact h.elim
    | some ys =>
      rw [g] at h
      obtain rfl := strsD_eq g
      exact ⟨ys, rv_strs_of r, h.1, h.2⟩
  cases r2 with
  | lst f h r =>
    obtain ⟨ys, rfl, h1, p3⟩ := go r p2
    exact ⟨a, _, ys, rfl, rfl, .inl (.inl (.inl h)), h1, k _ F2 H2 _ p3 (x1.trans ok x2) (.str _)⟩
  | tup f r =>
    obtain ⟨ys, rfl, h1, p3⟩ := go r p2
    exact ⟨a, _, ys, rfl, rfl, .inr f.sq, h1, k _ F2 H2 _ p3 (x1.trans ok x2) (.str _)⟩
  | _ => exact (show False from p2).elim⟩
/-- int(text) -/
def kIntS : Dat → (Dat → Prop) → Prop
  | .str a, P => match PySem.intText? a with
    | some n => a.length ≤ 640 ∧ P (.int n)
    | none => False
  | _, _ => False
theorem u_intS : UOk W Rv (fun xs H Q => ∃ a n, xs = [.str a] ∧ PySem.intText? a = some n ∧ a.length ≤ 640 ∧ Q (.int n) H) kIntS := fun F H x d Q P ok r q k => by
  cases r with
  | str a =>
    have q : (match PySem.intText? a with | some n => a.length ≤ 640 ∧ P (.int n) | none => False) := q
    cases g : PySem.intText? a with
    | none =>
      rw [g] at q
      exact q.elim
    | some n =>
      rw [g] at q
      exact ⟨a, n, rfl, g, q.1, k _ F H _ q.2 (.refl ok) (.int _)⟩
  | _ => exact (show False from q).elim
def kLenS : Dat → (Dat → Prop) → Prop
  | .str a, P => a.length ≤ 1000000 ∧ P (.int (a.length : Nat))
  | _, _ => False
theorem u_lenS : UOk W Rv (fun xs H Q => ∃ z : Str, xs = [.str z] ∧ z.length ≤ sizeLine ∧ Q (.int z.length) H) kLenS := fun F H x d Q P ok r q k => by
  cases r with
  | str a => exact ⟨a, rfl, Nat.le_trans q.1 (by rw [sizeLine_eq]; decide), k _ F H _ q.2 (.refl ok) (.int _)⟩
  | _ => exact (show False from q).elim
/-- str(x) of a number or a text -/
def rStrB : List V → Hp → VK → Prop := fun xs H Q => (∃ i, xs = [.int i] ∧ i.natAbs.log2 < 1920 ∧ Q (.str (toString i)) H) ∨ ∃ a, xs = [.str a] ∧ Q (.str a) H
theorem call_strB {X : Cx} : CallR X (.type "str") rStrB := by
  intro pins s σ H vs us Q I r h
  rcases h with h | h
  · exact call_str_int pins s σ H vs us Q I r h
  · exact SkE.call_str_str pins s σ H vs us Q I r h
def kStrB : Dat → (Dat → Prop) → Prop
  | .int i, P => i.natAbs < 1000000 ∧ P (.str (toString i))
  | .str a, P => P (.str a)
  | _, _ => False
theorem u_strB : UOk W Rv rStrB kStrB := fun F H x d Q P ok r q k => by
  cases r with
  | int i => exact .inl ⟨i, rfl, log_small q.1, k _ F H _ q.2 (.refl ok) (.str _)⟩
  | str a => exact .inr ⟨a, rfl, k _ F H _ q (.refl ok) (.str _)⟩
  | _ => exact (show False from q).elim
/-- one sign in a text -/
def kSign (n : Bool) : Dat → Dat → (Dat → Prop) → Prop
  | .str x, .str z, P => match x.cps.toList with
    | [c] => P (.bl (if n then !decide (c ∈ z.cps.toList) else decide (c ∈ z.cps.toList)))
    | _ => False
  | _, _, _ => False
theorem one_sign {x : Str} {c : Nat} (h : x.cps.toList = [c]) : x = ⟨#[c]⟩ := by
  obtain ⟨l⟩ := x
  congr
  exact Array.toList_inj.mp h
theorem rok_sign : ROk W Rv Rv Rv (fun x y H Q => ∃ (c : Nat) (z : Str), x = .str ⟨#[c]⟩ ∧ y = .str z ∧ Q (.bl (decide (c ∈ z.cps.toList))) H) (kSign false) := fun F H x y d e Q P ok r1 r2 q k => by
  cases r1 with
  | str x =>
    cases r2 with
    | str z =>
      have q : (match x.cps.toList with | [c] => P (.bl (decide (c ∈ z.cps.toList))) | _ => False) := q
      split at q
      · rename_i c h
        obtain rfl := one_sign h
        exact ⟨c, z, rfl, rfl, k _ F H _ q (.refl ok) (.bl _)⟩
      · exact q.elim
    | _ => exact (show False from q).elim
  | _ => exact (show False from q).elim
/-- the signs of a text -/
def signs (x : Str) : List Str := x.cps.toList.map fun c => ⟨#[c]⟩
def iSgn (ae : AEx) : AFr := fun env P => ae env fun d => txQ d fun x => P ((signs x).map Dat.str)
theorem i_sgn (h : AExp W H0 te ee) : AIter W H0 (iStr te) (iSgn ee) := ⟨fun σ env F H R P ok m q k => h.run σ env F H _ _ ok m q fun d F1 H1 v p1 x1 r1 => by
  obtain ⟨x, rfl, rfl, p1⟩ := txQ_at p1 r1
  have ln : ((signs x).map Dat.str).length = x.cps.size := by
    unfold signs
    rw [List.length_map, List.length_map, Array.length_toList]
  refine ⟨x, rfl, k _ F1 H1 _ p1 x1 ⟨fun F2 H2 ok2 sb i d hd => ?_, fun F2 H2 ok2 sb => by rw [ln]; exact Nat.le_refl _⟩⟩
  have hi := (List.getElem?_eq_some_iff.mp hd).1
  rw [ln] at hi
  refine ⟨hi, fun y H3 ⟨e1, c, e2, e3⟩ => ?_⟩
  subst e1 e3
  have e : ((signs x).map Dat.str)[i]? = some (.str ⟨#[c]⟩) := by
    unfold signs
    rw [List.map_map, List.getElem?_map, Array.getElem?_toList, e2]
    rfl
  rw [e] at hd
  cases hd
  exact ⟨F2, .refl ok2, .str _⟩⟩
end
theorem kStrB_i {i : Int} {P : Dat → Prop} : kStrB (.int i) P = (i.natAbs < 1000000 ∧ P (.str (toString i))) := rfl
theorem kStrB_s {a : Str} {P : Dat → Prop} : kStrB (.str a) P = P (.str a) := rfl
theorem kLenS_s {a : Str} {P : Dat → Prop} : kLenS (.str a) P = (a.length ≤ 1000000 ∧ P (.int (a.length : Nat))) := rfl
theorem Mt.base {W : Wd} {H0 H0' : Hp} {F : Addr → Prop} {H : Hp} {σ : L2.St} {env : List Sl} (m : Mt W H0 F H σ env) (h : ∀ a, H0 a = none → H a ≠ none → H0' a = none) : Mt W H0' F H σ env :=
  ⟨m.ln, fun i s e => by
    obtain ⟨ov, e1, r⟩ := m.at_ i s e
    refine ⟨ov, e1, ?_⟩
    cases s with
    | u => trivial
    | d x => exact r
    | o xs =>
      obtain ⟨a, vs, r1, r2, r3, r4, r5, r6⟩ := r
      exact ⟨a, vs, r1, r2, h a r3 (by rw [r4]; exact fun z => nomatch z), r4, r5, r6⟩, m.own⟩
theorem Mt.mutD {W : Wd} {H0 : Hp} {F : Addr → Prop} {H : Hp} {σ : L2.St} {env : List Sl} {D : Addr} {o : HO} (m : Mt W H0 F H σ env) (hD : H0 D ≠ none) (nf : ¬ F D) : Mt W H0 F (upd H D o) σ env :=
  ⟨m.ln, fun i s e => by
    have sb : Sub F H F (upd H D o) := fun a f => ⟨f, upd_ne (fun z => nf (by rw [← z]; exact f))⟩
    obtain ⟨ov, e1, r⟩ := m.at_ i s e
    refine ⟨ov, e1, ?_⟩
    cases s with
    | u => trivial
    | d x =>
      obtain ⟨v, h1, h2⟩ := r
      exact ⟨v, h1, h2.sub sb⟩
    | o xs =>
      obtain ⟨a, vs, r1, r2, r3, r4, r5, r6⟩ := r
      refine ⟨a, vs, r1, r2, r3, ?_, r5.sub sb, r6⟩
      rw [upd_ne (fun z => hD (by rw [← z]; exact r3))]
      exact r4, m.own⟩
/-- one list behind another, each behind what there is -/
def lcO (o : Dat → List Dat → (List Dat → Prop) → Prop) (P : List Dat → Prop) : List Dat → List Dat → Prop
  | [], acc => P acc
  | d :: ds, acc => o d acc fun acc' => lcO o P ds acc'
def elO (ag : ATg) (at_ : ATs) (bi : AFr) (bg : ATg) (bt : ATs) (ea : AEx) (vs1 : List Nat) (env : List Sl) : Dat → List Dat → (List Dat → Prop) → Prop := fun d acc K => ag d env fun env2 => at_ env2 fun b => two b (bi env2 fun es => es.length ≤ 300 ∧ lcA (elA bg bt ea (wipeA env2 vs1)) K es acc) (K acc)
def aLc2 (ai : AFr) (ag : ATg) (at_ : ATs) (bi : AFr) (bg : ATg) (bt : ATs) (ea : AEx) (vs vs1 : List Nat) : AFr := fun env P => ai env fun ds => ds.length ≤ 300 ∧ lcO (elO ag at_ bi bg bt ea vs1 (wipeA env vs)) P ds []
theorem a_lc2 {W : Wd} {H0 : Hp} {wi wi1 : TI} {g g1 : TG} {tt tt1 : TT} {te : TE} {vs vs1 : List Nat} {ai bi : AFr} {ag bg : ATg} {at_ bt : ATs} {ea : AEx} (hi : AIter W H0 wi ai) (hg : ∀ H0, ATgt W H0 vs g ag) (ht : ∀ H0, ATst W H0 tt at_) (hi1 : ∀ H0, AIter W H0 wi1 bi) (hg1 : ∀ H0, ATgt W H0 vs1 g1 bg) (ht1 : ∀ H0, ATst W H0 tt1 bt) (he : ∀ H0, AExp W H0 te ea) :
    AFrs W H0 (tLc2 wi g tt wi1 g1 tt1 te vs vs1) (aLc2 ai ag at_ bi bg bt ea vs vs1) := ⟨fun σ env F H Q P ok m q k => hi.run σ env F H _ _ ok m q fun ds F1 H1 J p1 x1 itk => by
  intro D hD
  obtain ⟨sz, p1⟩ := p1
  have ok1 := x1.ok
  have np : ∀ p c, W.po = some (p, c) → D ≠ p ∧ D ≠ c := ok1.pne hD
  obtain ⟨B, hB, hB2⟩ : ∃ B : Hp, B D ≠ none ∧ ∀ a, a ≠ D → B a = H0 a := ⟨fun a => if a = D then some (.lst []) else H0 a, by simp, fun a e => if_neg e⟩
  have m1 : Mt W B F1 H1 σ env := (m.ext ok x1).base fun a h1 h2 => by
    rw [hB2 a fun z => h2 (by rw [z]; exact hD)]
    exact h1
  have keep : ∀ {Fa Fb : Addr → Prop} {Ha Hb : Hp} {acc : List V}, Ext W Fa Ha Fb Hb → ¬ Fa D → Ha D = some (.lst acc) → ¬ Fb D ∧ Hb D = some (.lst acc) := fun {Fa Fb Ha Hb acc} x nf h => by
    refine ⟨fun f => ?_, x.kp D _ h (fun p c e => (np p c e).1)⟩
    rcases x.dn D f with z | z
    · exact nf z
    · rw [z] at h
      cases h
  refine ⟨fun i n H' => n + i = ds.length ∧ ∃ F' acc ys, Ext W F1 H1 F' H' ∧ ¬ F' D ∧ H' D = some (.lst acc) ∧ RvAll W F' H' acc ys ∧ ys.length ≤ i * 300 ∧ lcO (elO ag at_ bi bg bt ea vs1 (wipeA env vs)) P (ds.drop i) ys,
    ⟨ds.length, rfl, F1, [], [], Ext.lay ok1 hD, fun f => ok1.tr D f hD, upd_same, .nil, Nat.zero_le _, p1⟩, ?_⟩
  rintro i n H2 ⟨hn, F2, acc, ys, x2, nf, hA, r2, ly, p2⟩
  have ok2 := x2.ok
  by_cases hlt : i < ds.length
  · have hd : ds[i]? = some ds[i] := List.getElem?_eq_getElem hlt
    obtain ⟨go, yl⟩ := itk.it F2 H2 ok2 (x2.sub ok1) i _ hd
    rw [List.drop_eq_getElem_cons hlt] at p2
    refine .inr ⟨go, fun H' => ∃ F' acc ys, Ext W F1 H1 F' H' ∧ ¬ F' D ∧ H' D = some (.lst acc) ∧ RvAll W F' H' acc ys ∧ ys.length ≤ (i + 1) * 300 ∧ lcO (elO ag at_ bi bg bt ea vs1 (wipeA env vs)) P (ds.drop (i + 1)) ys,
      fun H' ⟨F', acc, ys, rest⟩ => ⟨n - 1, by omega, by omega, F', acc, ys, rest⟩, fun x H3 y => ?_⟩
    obtain ⟨F3, x3, rx⟩ := yl x H3 y
    have x13 := x2.trans ok1 x3
    refine (hg B).run x _ _ _ F3 H3 _ _ x3.ok ((m1.ext ok1 x13).wipe vs) rx p2 fun env4 σ4 p4 m4 w4 => ?_
    refine ⟨w4.trans (wipe_wipe σ vs), (ht B).run σ4 env4 F3 H3 _ _ x3.ok m4 p4 fun b F5 H5 p5 x5 => ?_⟩
    obtain ⟨nf3, h3⟩ := keep x3 nf hA
    obtain ⟨nf5, h5⟩ := keep x5 nf3 h3
    have x35 := x3.trans ok2 x5
    have x15 := x2.trans ok1 x35
    have r25 := r2.sub (x35.sub ok2)
    have m5 := m4.ext x3.ok x5
    cases b with
    | true =>
      rw [if_pos rfl]
      refine (hi1 B).run σ4 env4 F5 H5 _ _ x5.ok m5 p5 fun es F6 H6 J1 p6 x6 itk1 => ?_
      obtain ⟨sz1, p6⟩ := p6
      obtain ⟨nf6, h6⟩ := keep x6 nf5 h5
      refine ⟨fun j m H' => m + j = es.length ∧ ∃ F' acc ys', Ext W F1 H1 F' H' ∧ Sub F6 H6 F' H' ∧ Mt W B F' H' σ4 env4 ∧ ¬ F' D ∧ H' D = some (.lst acc) ∧ RvAll W F' H' acc ys' ∧ ys'.length ≤ ys.length + j ∧ lcA (elA bg bt ea (wipeA env4 vs1)) (fun acc' => lcO (elO ag at_ bi bg bt ea vs1 (wipeA env vs)) P (ds.drop (i + 1)) acc') (es.drop j) ys',
        ⟨es.length, rfl, F6, acc, ys, x15.trans ok1 x6, Sub.refl _ _, m5.ext x5.ok x6, nf6, h6, r25.sub (x6.sub x5.ok), Nat.le_refl _, p6⟩, ?_⟩
      rintro j n' H7 ⟨hn7, F7, acc7, ys7, x17, s67, m7, nf7, h7, r7, ly7, p7⟩
      by_cases hlt7 : j < es.length
      · have hd7 : es[j]? = some es[j] := List.getElem?_eq_getElem hlt7
        obtain ⟨go7, yl7⟩ := itk1.it F7 H7 x17.ok s67 j _ hd7
        rw [List.drop_eq_getElem_cons hlt7] at p7
        refine .inr ⟨go7, fun H' => ∃ F' acc ys', Ext W F1 H1 F' H' ∧ Sub F6 H6 F' H' ∧ Mt W B F' H' σ4 env4 ∧ ¬ F' D ∧ H' D = some (.lst acc) ∧ RvAll W F' H' acc ys' ∧ ys'.length ≤ ys.length + (j + 1) ∧ lcA (elA bg bt ea (wipeA env4 vs1)) (fun acc' => lcO (elO ag at_ bi bg bt ea vs1 (wipeA env vs)) P (ds.drop (i + 1)) acc') (es.drop (j + 1)) ys',
          fun H' ⟨F', acc, ys', rest⟩ => ⟨n' - 1, by omega, by omega, F', acc, ys', rest⟩, fun x8 H8 y8 => ?_⟩
        obtain ⟨F8, x8, rx8⟩ := yl7 x8 H8 y8
        obtain ⟨nf8, h8⟩ := keep x8 nf7 h7
        have m8 := m7.ext x17.ok x8
        refine (hg1 B).run _ _ _ _ F8 H8 _ _ x8.ok (m8.wipe vs1) rx8 p7 fun env9 σ9 p9 m9 w9 => ?_
        refine ⟨w9.trans (wipe_wipe σ4 vs1), (ht1 B).run σ9 env9 F8 H8 _ _ x8.ok m9 p9 fun b FA HA pA xA => ?_⟩
        obtain ⟨nfA, hA'⟩ := keep xA nf8 h8
        have x8A := x8.trans x17.ok xA
        have x1A := x17.trans ok1 x8A
        cases b with
        | true =>
          rw [if_pos rfl]
          refine (he B).run σ9 env9 FA HA _ _ xA.ok (m9.ext x8.ok xA) pA fun e FB HB v pB xB rB => ?_
          obtain ⟨nfB, hB'⟩ := keep xB nfA hA'
          have x7B := x8A.trans x17.ok xB
          have x1B := x1A.trans ok1 xB
          have r7B := r7.sub (x7B.sub x17.ok)
          have sb : Sub FB HB FB (upd HB D (.lst (acc7 ++ [v]))) := fun a f => ⟨f, upd_ne (fun z => nfB (by rw [← z]; exact f))⟩
          have big : ys7.length < 100000 := by
            have : i * 300 ≤ 299 * 300 := Nat.mul_le_mul_right _ (by omega)
            omega
          refine ⟨acc7, hB', len_size (by rw [r7.length]; omega), FB, _, ys7 ++ [e], ⟨x1B.up, x1B.dn, fun a o ha npa => ?_, ⟨fun a f => ?_, fun p c ep => ?_⟩⟩, (s67.trans (x7B.sub x17.ok)).trans sb, (m7.ext x17.ok x7B).mutD hB nfB, nfB, upd_same, (r7B.append (.cons rB .nil)).sub sb, by rw [List.length_append, List.length_singleton]; omega, pB⟩
          · rw [upd_ne (ne_of_none ha hD)]
            exact x1B.kp a o ha npa
          · rw [(sb a f).2]
            exact x1B.ok.tr a f
          · obtain ⟨h1, h2, h3⟩ := x1B.ok.po p c ep
            exact ⟨h1.mut (np p c ep).1 (np p c ep).2, h2, h3⟩
        | false =>
          rw [if_neg Bool.false_ne_true]
          exact ⟨FA, acc7, ys7, x1A, s67.trans (x8A.sub x17.ok), m7.ext x17.ok x8A, nfA, hA', r7.sub (x8A.sub x17.ok), by omega, pA⟩
      · have e : j = es.length := by omega
        subst e
        rw [List.drop_length] at p7
        refine .inl ⟨itk1.done F7 H7 x17.ok s67, F7, acc7, ys7, x17, nf7, h7, r7, ?_, p7⟩
        rw [Nat.add_mul]
        omega
    | false =>
      rw [if_neg Bool.false_ne_true]
      refine ⟨F5, acc, ys, x15, nf5, h5, r25, ?_, p5⟩
      rw [Nat.add_mul]
      omega
  · have e : i = ds.length := by omega
    subst e
    rw [List.drop_length] at p2
    exact .inl ⟨itk.done F2 H2 ok2 (x2.sub ok1), k ys F2 H2 D acc p2 (x1.trans ok x2) (x1.there ok hD) nf hA r2⟩⟩
def zAugF (c i : Nat) (eo ea : BEx) : BSt := fun D env M => eo env M (D.ex env) fun x M1 => ceQ x fun a => coQ (M1 a) fun k ds => k = c ∧ oQ ds[i]? fun u => inQ u fun n => ea env M1 (D.ex env) fun y M2 => inQ y fun m => coQ (M2 a) fun k2 ds2 => k2 = c ∧ i < ds2.length ∧ D.nx env (M2.put a (some (.obj c (ds2.set i (.int (n + m))))))
theorem inQ_at {W : Wd} {F : Addr → Prop} {H : Hp} {v : V} {d : Dat} {P : Int → Prop} (h : inQ d P) (r : Rv W F H v d) : ∃ n, v = .int n ∧ d = .int n ∧ P n := by
  cases r with
  | int n => exact ⟨n, rfl, rfl, h⟩
  | _ => exact (show False from h).elim
theorem z_augF {W : Wd} {E : XS} {c i : Nat} {f : Str} {to te : TE} {eo ea : BEx} (cl : Cls W.K (W.ca c)) (na : NoAttr W.K (W.ca c) f) (hf : (clsN c)[i]? = some f) (nd : (clsN c).Nodup) (ln : (clsN c).length < 900) (ho : ∀ H0, BExp W H0 E to eo) (he : ∀ H0, BExp W H0 E te ea) :
    BStm W E (sFldAug W.K to te rAdd f) (zAugF c i eo ea) := ⟨fun F0 H0 M0 F1 H1 De Da σ env F H M cf k h => by
  refine (ho H0).run σ env F H M _ _ _ (cf.cfg k) h fun o Fa Ha w Ma p x ro => ?_
  have ca := cf.step x
  cases o with
  | cell a =>
    have e := rv_cell (show Rv W Fa Ha w (.cell a) from ro)
    subst e
    obtain ⟨kk, ds, hM, rfl, p⟩ := coQ_at p
    obtain ⟨nf, np, dx, fs, hA, lf, rf, no⟩ := x.ok.at_ a _ hM
    cases g : ds[i]? with
    | none =>
      rw [g] at p
      exact p.elim
    | some u =>
      rw [g] at p
      have hi := (List.getElem?_eq_some_iff.mp g).1
      have hf1 : ((clsN kk).take ds.length)[i]? = some f := by rw [List.getElem?_take_of_lt hi]; exact hf
      obtain ⟨v, ev, rv⟩ := rf.get (i := i) hf1 g
      obtain ⟨n, rfl, rfl, p⟩ := inQ_at p rv
      refine ⟨a, W.ca kk, dx, fs, _, rfl, hA, cl, na, ev, ?_⟩
      refine (he H0).run σ env Fa Ha Ma _ _ _ (ca.cfg k) p fun y F' H' u M' p x2 ry => ?_
      have cb := ca.step x2
      obtain ⟨m, rfl, rfl, p⟩ := inQ_at p ry
      obtain ⟨k2, ds2, hM2, rfl, hi2, p⟩ := coQ_at p
      obtain ⟨nf2, np2, dx2, fs2, hA2, lf2, rf2, no2⟩ := x2.ok.at_ a _ hM2
      have lds := rf2.len
      rw [List.length_take] at lds
      have hf2 : ((clsN k2).take ds2.length)[i]? = some f := by rw [List.getElem?_take_of_lt hi2]; exact hf
      refine ⟨n, m, rfl, rfl, dx2, fs2, hA2, by omega, ?_⟩
      have sb : Sub F' H' F' (upd H' a (.ins (W.ca k2) dx2 (putF f (.int (n + m)) fs2))) := fun c f => ⟨f, upd_ne (fun z => nf2 (by rw [← z]; exact f))⟩
      have x3 := x2.ok.upd_cell (o := .ins (W.ca k2) dx2 (putF f (.int (n + m)) fs2)) (c1 := .obj k2 (ds2.set i (.int (n + m)))) hM2 (by
        refine ⟨dx2, putF f (.int (n + m)) fs2, upd_same, ?_⟩
        rw [List.length_set]
        obtain ⟨u, eu, _⟩ := rf2.get (i := i) hf2 (List.getElem?_eq_getElem hi2)
        refine ⟨by rw [putF_same eu]; exact lf2, (RvFs.setAt (.int _) rf2 (nd.sublist (List.take_sublist _ _)) hf2).sub sb, fun m hm => ?_⟩
        rw [lookup_putF, if_neg (fun e => hm (by rw [e]; exact List.mem_of_getElem? hf2))]
        exact no2 m hm)
      have c3 := cb.step x3
      exact k.nx _ _ _ _ _ c3.b c3.m p
  | _ => exact (show False from p).elim⟩
def flatN : Dat → Bool
  | .int _ => true
  | .str _ => true
  | .non => true
  | _ => false
theorem flatN_v {W : Wd} {F : Addr → Prop} {H : Hp} {v : V} {d : Dat} (r : Rv W F H v d) (f : flatN d = true) : flatV v = true := by
  cases r <;> first | rfl | cases f
def kInN (n : Bool) : Dat → Dat → (Dat → Prop) → Prop := fun x y P => flatN x = true ∧ sQ y fun xs => xs.all flatD = true ∧ ∀ b : Bool, (b = true ↔ x ∈ xs) → P (.bl (if n then !b else b))
theorem inV_non {W : Wd} {F : Addr → Prop} {H : Hp} : ∀ {vs : List V} {ds : List Dat}, RvAll W F H vs ds → ds.all flatD = true → inV .non vs = true → False
  | _, _, .nil, _, h => by cases h
  | _, _, .cons a s, g, h => by
    rw [List.all_cons, Bool.and_eq_true] at g
    unfold inV at h
    rw [List.any_cons, Bool.or_eq_true] at h
    rcases h with h | h
    · cases a with
      | int j => cases h
      | str y => cases h
      | _ => cases g.1
    · exact inV_non s g.2 h
theorem inV_memN {W : Wd} {F : Addr → Prop} {H : Hp} {v : V} {d : Dat} (r : Rv W F H v d) (f : flatN d = true) : ∀ {vs : List V} {ds : List Dat}, RvAll W F H vs ds → ds.all flatD = true → (inV v vs = true ↔ d ∈ ds) := fun {vs ds} s g => by
  cases r with
  | non =>
    refine ⟨fun h => ?_, fun h => absurd (List.all_eq_true.mp g _ h) (by decide)⟩
    exact (inV_non s g h).elim
  | int i => exact inV_mem (.int i) rfl s g
  | str x => exact inV_mem (.str x) rfl s g
  | _ => cases f
theorem rok_inN {W : Wd} {n : Bool} : ROk W Rv Pk Rv (rIn W.K n) (kInN n) := fun F H x y d e Q P ok r1 r2 q k => by
  obtain ⟨f, q⟩ := q
  obtain ⟨a, vs, xs, rfl, h, rr, ⟨g, q⟩, _⟩ := r2.seq ok q
  refine ⟨a, vs, rfl, h, flatN_v r1 f, flat_vs rr g, ?_⟩
  have := q (inV x vs) (inV_memN r1 f rr g)
  cases n with
  | true => exact k _ F H _ this (.refl ok) (.bl _)
  | false => exact k _ F H _ this (.refl ok) (.bl _)
theorem kInN_s {n : Bool} {x : Str} {xs : List Str} {P : Dat → Prop} (h : P (.bl (if n then !decide (x ∈ xs) else decide (x ∈ xs)))) : kInN n (.str x) (.lst (xs.map .str)) P := ⟨rfl, List.all_eq_true.mpr fun d hd => (by obtain ⟨x, _, rfl⟩ := List.mem_map.mp hd; rfl), fun b hb => by
  have e : b = decide (x ∈ xs) := by
    rw [Bool.eq_iff_iff, hb, decide_eq_true_eq]
    constructor
    · intro m
      obtain ⟨y, hy, e⟩ := List.mem_map.mp m
      cases e
      exact hy
    · exact fun m => List.mem_map.mpr ⟨x, m, rfl⟩
  rw [e]
  exact h⟩
theorem kInN_n {n : Bool} {xs : List Str} {P : Dat → Prop} (h : P (.bl n)) : kInN n .non (.lst (xs.map .str)) P := ⟨rfl, List.all_eq_true.mpr fun d hd => (by obtain ⟨x, _, rfl⟩ := List.mem_map.mp hd; rfl), fun b hb => by
  have e : b = false := by
    rw [Bool.eq_false_iff]
    intro z
    obtain ⟨y, _, e⟩ := List.mem_map.mp (hb.mp z)
    cases e
  subst e
  cases n <;> exact h⟩
/-- x in a tuple of texts of the module -/
def aInG (n : Bool) (ys : List Str) (ex : AEx) : AEx := fun env P => ex env fun x => match x with
  | .str s => P (.bl (if n then !decide (s ∈ ys) else decide (s ∈ ys)))
  | .non => P (.bl n)
  | _ => False
/-- the module's tuple of these texts -/
def GTup (K : PySem.W.Frag) (a : Addr) (ys : List Str) : Prop := ∀ H, SqT K H a (ys.map V.str)
theorem strs_flatV : ∀ (ys : List Str), (ys.map V.str).all flatV = true
  | [] => rfl
  | _ :: ys => strs_flatV ys
theorem inV_strs {s : Str} : ∀ {ys : List Str}, inV (.str s) (ys.map V.str) = decide (s ∈ ys)
  | [] => rfl
  | y :: ys => by
    have ih := inV_strs (s := s) (ys := ys)
    unfold inV at ih ⊢
    rw [List.map_cons, List.any_cons, ih]
    show ((y == s) || decide (s ∈ ys)) = _
    by_cases e : y = s
    · rw [e]
      simp
    · rw [show (y == s) = false from beq_eq_false_iff_ne.mpr e, Bool.false_or]
      refine decide_eq_decide.mpr ⟨fun h => List.mem_cons_of_mem _ h, fun h => (List.mem_cons.mp h).elim (fun z => absurd z.symm e) id⟩
theorem inV_nonS : ∀ {ys : List Str}, inV .non (ys.map V.str) = false
  | [] => rfl
  | _ :: ys => inV_nonS (ys := ys)
theorem a_inG {W : Wd} {H0 : Hp} {n : Bool} {a : Addr} {ys : List Str} {tx : TE} {ex : AEx} (g : GTup W.K a ys) (h : AExp W H0 tx ex) : AExp W H0 (tOp (rIn W.K n) tx (tC (.ref a))) (aInG n ys ex) := ⟨fun σ env F H Q P ok m q k => h.run σ env F H _ _ ok m q fun d F1 H1 v p1 x1 r1 => by
  refine ⟨a, ys.map V.str, rfl, .inr (g H1), ?_⟩
  cases r1 with
  | str s =>
    refine ⟨rfl, strs_flatV ys, ?_⟩
    rw [inV_strs]
    cases n with
    | true => exact k _ F1 H1 _ p1 x1 (.bl _)
    | false => exact k _ F1 H1 _ p1 x1 (.bl _)
  | non =>
    refine ⟨rfl, strs_flatV ys, ?_⟩
    rw [inV_nonS]
    cases n with
    | true => exact k _ F1 H1 _ p1 x1 (.bl _)
    | false => exact k _ F1 H1 _ p1 x1 (.bl _)
  | _ => exact (show False from p1).elim⟩
/-- its texts, one by one -/
def iG (ys : List Str) : AFr := fun _ P => P (ys.map Dat.str)
theorem i_G {W : Wd} {H0 : Hp} {a : Addr} {ys : List Str} (g : GTup W.K a ys) : AIter W H0 (iTup W.K (tC (.ref a))) (iG ys) := ⟨fun σ env F H R P ok m q k =>
  ⟨a, rfl, ⟨_, g H⟩, k _ F H _ q (.refl ok) ⟨fun F2 H2 ok2 sb i d hd => by
    rw [List.getElem?_map] at hd
    cases e : ys[i]? with
    | none =>
      rw [e] at hd
      cases hd
    | some y =>
      rw [e] at hd
      cases hd
      refine ⟨⟨_, .str y, g H2, by rw [List.getElem?_map, e]; rfl⟩, fun x H3 ⟨e1, h⟩ => ?_⟩
      subst e1
      have := h _ (g H3)
      rw [List.getElem?_map, e] at this
      cases this
      exact ⟨F2, .refl ok2, .str y⟩, fun F2 H2 ok2 sb => ⟨_, g H2, by rw [List.length_map, List.length_map]; exact Nat.le_refl _⟩⟩⟩⟩
def sExt (i : Nat) (ea : AEx) : ASt := fun D env => oQ2 (dAt env i) fun xs => ea env fun d => lQ d fun ys => xs.length + ys.length < 100000 ∧ D.nx (env.set i (.o (xs ++ ys)))
theorem s_ext {W : Wd} {te : TE} {ea : AEx} {i : Nat} (he : ∀ H0, AExp W H0 te ea) : AStm W (tDrop (tBM W.K "list" rExtend (tVar i) (tCons te tNil))) (sExt i ea) := ⟨fun F0 H0 F1 H1 De Da σ env F H ok b m k h => by
  obtain ⟨xs, a, vs, h, e, es, nf, n0, hA, r, np⟩ := own_at m h
  refine ⟨_, es, .inl ⟨rfl, vs, SqL.of hA⟩, ?_⟩
  refine (he H0).run σ env F H _ _ b.ex.ok m h fun d F' H' v p x rv => ?_
  cases rv with
  | @lst c ws ds f hc rd =>
    obtain ⟨hl, p⟩ := (show xs.length + ds.length < 100000 ∧ _ from p)
    obtain ⟨nf', hA', r'⟩ := own_ext b.ex.ok x nf hA r np
    obtain ⟨b2, m2⟩ := s_own ok (b.step ok x) (m.ext b.ex.ok x) e es nf' n0 np (r'.append rd)
    exact ⟨a, c, vs, ws, rfl, rfl, hA', hc, Nat.le_of_lt (len_size (by rw [r'.length, rd.length]; omega)), k.nx _ _ _ _ b2 m2 p⟩
  | _ => exact (show False from p).elim⟩
def kLeS : Dat → Dat → (Dat → Prop) → Prop
  | .str i, .str j, P => P (.bl (!decide (j.cps.toList < i.cps.toList)))
  | _, _, _ => False
theorem rok_leS {W : Wd} : ROk W Rv Rv Rv (fun x y H Q => ∃ i j : Str, x = .str i ∧ y = .str j ∧ Q (.bl (!decide (j.cps.toList < i.cps.toList))) H) kLeS := fun F H x y d e Q P ok r1 r2 q k => by
  cases r1 <;> cases r2 <;> first | exact (show False from q).elim | exact ⟨_, _, rfl, rfl, k _ F H _ q (.refl ok) (.bl _)⟩
theorem kLeS_s {i j : Str} {P : Dat → Prop} : kLeS (.str i) (.str j) P = P (.bl (!decide (j.cps.toList < i.cps.toList))) := rfl
/-- signs by their numbers -/
theorem sign_le {a b : Nat} : (!decide (([b] : List Nat) < [a])) = decide (a ≤ b) := by
  have e : (([b] : List Nat) < [a]) ↔ b < a := by
    constructor
    · intro h
      cases h with
      | rel h => exact h
      | cons h => cases h
    · exact fun h => .rel h
  by_cases h : a ≤ b
  · rw [decide_eq_true h, decide_eq_false (fun z => by have := e.mp z; omega)]
    rfl
  · rw [decide_eq_false h, decide_eq_true (e.mpr (by omega))]
    rfl
def forC (a : Addr) (as : List Dat) (g : ATg) (b : BSt) (D : BEnds) : List Dat → List Sl → Sto → Prop
  | [], env, M => D.nx env M
  | d :: ds, env, M => g d env fun env2 => b { D with nx := fun e m => m a = some (.lst as) ∧ forC a as g b D ds e m, ct := fun e m => m a = some (.lst as) ∧ forC a as g b D ds e m, bk := D.nx } env2 M
def zForC (eo : BEx) (g : ATg) (b : BSt) : BSt := fun D env M => eo env M (D.ex env) fun x M1 => ceQ x fun a => cQ (M1 a) fun ds => forC a ds g b D ds env M1
theorem z_forC {W : Wd} {E : XS} {te : TE} {ts : TS} {bs : BSt} {eo : BEx} {g : TG} {ag : ATg} {vs : List Nat} (ho : ∀ H0, BExp W H0 E te eo) (hg : ∀ H0, ATgt W H0 vs g ag) (hb : BStm W E ts bs) : BStm W E (tFor (iList W.K te) g ts) (zForC eo ag bs) := ⟨fun F0 H0 M0 F1 H1 De Da σ env F H M c k h =>
  (ho H0).run σ env F H M _ _ _ (c.cfg k) h fun x Fa Ha v Ma p1 x1 r1 => by
  cases x with
  | cell a =>
    have e := rv_cell (show Rv W Fa Ha v (.cell a) from r1)
    subst e
    obtain ⟨ds, hM, p1⟩ := cQ_at p1
    have c1 := c.step x1
    obtain ⟨_, _, us, hA, rr⟩ := x1.ok.at_ a _ hM
    refine ⟨a, rfl, ⟨us, SqL.of hA⟩, fun i n σ' H' => n + i = ds.length ∧ ∃ env' F' M', BCf W F0 H0 M0 F1 H1 F' H' M' σ' env' ∧ M' a = some (.lst ds) ∧ forC a ds ag bs Da (ds.drop i) env' M', ⟨ds.length, rfl, env, Fa, Ma, c1, hM, p1⟩, ?_⟩
    rintro i n σ2 H2 ⟨hn, env2, F2, M2, c2, m2, p2⟩
    obtain ⟨_, _, us2, hA2, rr2⟩ := c2.b.ex.ok.at_ a _ m2
    by_cases hlt : i < ds.length
    · have hd : ds[i]? = some ds[i] := List.getElem?_eq_getElem hlt
      rw [List.drop_eq_getElem_cons hlt] at p2
      obtain ⟨u, e1, ru⟩ := rr2.get hd
      refine .inr ⟨⟨us2, u, SqL.of hA2, e1⟩, fun σ' H' => ∃ env' F' M', BCf W F0 H0 M0 F1 H1 F' H' M' σ' env' ∧ M' a = some (.lst ds) ∧ forC a ds ag bs Da (ds.drop (i + 1)) env' M',
        fun σ' H' ⟨env', F', M', rest⟩ => ⟨n - 1, by omega, by omega, env', F', M', rest⟩, fun x H3 y => ?_⟩
      obtain ⟨rfl, y⟩ := y
      have e2 := y us2 (SqL.of hA2)
      rw [e1] at e2
      cases e2
      refine (hg _).run u _ σ2 env2 F2 _ _ _ c2.b.ex.ok.ok c2.m ru p2 fun env4 σ4 p4 m4 _ => ?_
      exact hb.run F0 H0 M0 F2 _ _ { Da with nx := fun e m => m a = some (.lst ds) ∧ forC a ds ag bs Da (ds.drop (i + 1)) e m, ct := fun e m => m a = some (.lst ds) ∧ forC a ds ag bs Da (ds.drop (i + 1)) e m, bk := Da.nx } σ4 env4 F2 _ M2 ⟨⟨c2.b.ex, Sub.refl _ _⟩, m4⟩
        ⟨fun σ env F H M b m h => ⟨env, F, M, ⟨⟨b.ex, c2.b.sb.trans b.sb⟩, m⟩, h⟩, fun v d F H M b => k.rt v d F H M ⟨b.ex, c2.b.sb.trans b.sb⟩, fun σ env F H M b => k.nx σ env F H M ⟨b.ex, c2.b.sb.trans b.sb⟩,
          fun σ env F H M b m h => ⟨env, F, M, ⟨⟨b.ex, c2.b.sb.trans b.sb⟩, m⟩, h⟩, fun σ env F H M b => k.ex σ env F H M ⟨b.ex, c2.b.sb.trans b.sb⟩⟩ p4
    · have e : i = ds.length := by omega
      subst e
      rw [List.drop_length] at p2
      exact .inl ⟨⟨us2, SqL.of hA2, by rw [rr2.length]; exact Nat.le_refl _⟩, k.nx σ2 env2 F2 H2 M2 c2.b c2.m p2⟩
  | _ => exact (show False from p1).elim⟩
theorem forC_suf {α : Type} {f : α → Dat} {a : Addr} {as : List Dat} {g : ATg} {b : BSt} {D : BEnds} (W : List α → List Sl → Sto → Prop) (hs : ∀ x xs env M, W (x :: xs) env M → ∀ N : List Sl → Sto → Prop, (∀ env' M', M' a = some (.lst as) → W xs env' M' → N env' M') → g (f x) env fun env2 => b { D with nx := N, ct := N, bk := D.nx } env2 M)
    (hd : ∀ env M, W [] env M → D.nx env M) : ∀ xs env M, W xs env M → forC a as g b D (xs.map f) env M
  | [], env, M, h => hd env M h
  | x :: xs, env, M, h => by
    have := hs x xs env M h (fun e m => m a = some (.lst as) ∧ forC a as g b D (xs.map f) e m) fun env' M' hm w => ⟨hm, forC_suf W hs hd xs env' M' w⟩
    exact this
/-- join, the written part named -/
theorem kjoin {X : Cx} {o e : Expr} {to te : TE} {K : PySem.W.Frag} {apos pos : Pos} (hK : X.K = K) (ho : PE X o to) (he : PE X e te) (hs : starEach [e] X.env = [(false, eval e X.env)] := by rfl) (hbase : attributeBase o "join" X.env (eval o X.env) = eval o X.env := by rfl) (hline : (apos.endLine == pos.line) = true := by rfl) :
    PE X (.Call (.Attribute o "join" apos) [e] [] pos) (tM1 (fun x xs H Q => ∃ a p, ∃ ys : List Str, x = .str a ∧ xs = [.ref p] ∧ (SqL K H p (ys.map V.str) ∨ SqT K H p (ys.map V.str)) ∧
      (ys.map (·.length)).sum + ys.length * a.length ≤ 16777216 ∧ Q (.str (Txt.join a ys)) H) to te) := by
  subst hK
  exact pe_join ho he hs hbase hline
def top (i : Nat) : Stmt := PySem.Challenge.pw_vouchdoor_k31_whole_policies_are_read_ex.main.body.getD i (.Pass ⟨0, 0, 0, 0⟩)
local macro_rules | `(tactic| walk_at "hp") => `(tactic| first
  | (with_reducible assumption)
  | exact upd_same
  | (refine (upd_ne (by with_reducible assumption)).trans ?_; walk_at "hp"))
local macro_rules | `(tactic| walk_at "kit") => `(tactic| first
  | with_reducible exact kit_NoneType_tuple
  | with_reducible exact kit_NoneType_list
  | with_reducible exact kit_NoneType_bool
  | with_reducible exact kit_NoneType_int
  | with_reducible exact kit_NoneType_str
  | with_reducible exact kit_bool_tuple
  | with_reducible exact kit_bool_list
  | with_reducible exact kit_bool_bool
  | with_reducible exact kit_bool_int
  | with_reducible exact kit_bool_str
  | with_reducible exact kit_int_tuple
  | with_reducible exact kit_int_list
  | with_reducible exact kit_int_bool
  | with_reducible exact kit_int_int
  | with_reducible exact kit_int_str
  | with_reducible exact kit_str_tuple
  | with_reducible exact kit_str_list
  | with_reducible exact kit_str_bool
  | with_reducible exact kit_str_int
  | with_reducible exact kit_str_str
  | with_reducible exact kit_list_tuple
  | with_reducible exact kit_list_list
  | with_reducible exact kit_list_bool
  | with_reducible exact kit_list_int
  | with_reducible exact kit_list_str
  | with_reducible exact kit_tuple_tuple
  | with_reducible exact kit_tuple_list
  | with_reducible exact kit_tuple_bool
  | with_reducible exact kit_tuple_int
  | with_reducible exact kit_tuple_str)
local macro_rules | `(tactic| walk_at "ty") => `(tactic| first
  | with_reducible exact .base .non
  | with_reducible exact .base (.bl _)
  | with_reducible exact .base (.int _)
  | with_reducible exact .base (.str _)
  | exact .base (.lst (by walk_at "hp"))
  | exact .base (.tup (by walk_at "hp")))
local macro_rules | `(tactic| walk_at "sq") => `(tactic| first
  | (with_reducible assumption)
  | exact SqL.of (by walk_at "hp")
  | exact SqT.of (by walk_at "hp")
  | ((with_reducible refine (?_ : SqL _ _ _ _)); assumption)
  | ((with_reducible refine (?_ : SqT _ _ _ _)); assumption))
local macro_rules | `(tactic| walk_at "eq") => `(tactic| ((with_reducible refine (?_ : @Eq _ _ _)); rfl))
local macro_rules | `(tactic| walk_at "side") => `(tactic| first
  | (with_reducible assumption)
  | walk_at "eq"
  | ((with_reducible refine (?_ : _ ≤ sizeLine)); exact Nat.le_of_ble_eq_true rfl)
  | omega
  | (show (0 : Int) < _; omega)
  | ((with_reducible refine (?_ : SqL _ _ _ _)); walk_at "sq")
  | ((with_reducible refine (?_ : SqT _ _ _ _)); walk_at "sq")
  | ((with_reducible refine (?_ : _ = some _)); walk_at "hp")
  | ((with_reducible refine (?_ : tyV _ _ _ _)); exact Or.inl ⟨rfl, _, SqL.of (by walk_at "hp")⟩)
  | exact flat_ints _
  | ((with_reducible refine (?_ : Cls _ _)); assumption)
  | ((with_reducible refine (?_ : NoAttr _ _ _)); assumption)
  | ((with_reducible refine (?_ : List.length _ < 1000)); exact Nat.le_of_ble_eq_true rfl)
  | exact ⟨_, SqL.of (by walk_at "hp")⟩
  | exact ⟨_, SqT.of (by walk_at "hp")⟩
  | (show CMul _ _; first | (exact Or.inl ⟨by omega, by omega⟩) | (exact Or.inr ⟨by omega, by omega⟩))
  | (show CDiv _ _; exact ⟨by omega, by omega⟩)
  | (show CPow _ _; exact ⟨by decide, by decide, by decide⟩))
local macro_rules | `(tactic| walk_at "size") => `(tactic| exact len_size (by (try rw [List.length_map]); omega))
local macro_rules | `(tactic| walk_at "s") => `(tactic| first
  | refine ⟨propOnly (by walk_at "side"), ?_⟩
  | refine ⟨_, (by walk_at "eq"), ?_⟩
  | refine ⟨_, _, (by walk_at "eq"), (by walk_at "eq"), ?_⟩
  | refine ⟨_, _, (by walk_at "eq"), propOnly (by walk_at "side"), ?_⟩
  | refine ⟨_, _, (by walk_at "eq"), ?_⟩
  | refine ⟨_, _, _, _, (by walk_at "eq"), (by walk_at "eq"), (by walk_at "sq"), (by walk_at "eq"), ?_⟩
  | refine ⟨_, _, _, _, (by walk_at "eq"), (by walk_at "eq"), (by walk_at "hp"), (by walk_at "eq"), ?_⟩
  | refine ⟨_, _, (by walk_at "eq"), .inl (by walk_at "sq"), ?_⟩
  | refine ⟨_, _, (by walk_at "eq"), .inr (by walk_at "sq"), ?_⟩
  | refine ⟨_, _, _, _, _, (by walk_at "eq"), .ty _, (by walk_at "ty"), (by walk_at "kit"), ?_⟩
  | refine Or.inl ⟨_, (by walk_at "eq"), ?_⟩
  | refine ⟨_, _, _, (by walk_at "eq"), (by walk_at "eq"), (by walk_at "hp"), propOnly (by walk_at "size"), ?_⟩
  | refine ⟨_, _, _, (by walk_at "eq"), propOnly (by walk_at "side"), ?_⟩
  | refine ⟨_, _, _, _, (by walk_at "eq"), propOnly (by walk_at "side"), ?_⟩
  | refine ⟨_, _, _, _, _, (by walk_at "eq"), propOnly (by walk_at "side"), ?_⟩
  | refine ⟨_, _, _, _, _, _, (by walk_at "eq"), propOnly (by walk_at "side"), ?_⟩
  | refine ⟨_, _, _, (by walk_at "eq"), ?_⟩
  | refine ⟨_, _, _, _, (by walk_at "eq"), ?_⟩
  | ((with_reducible refine iteCT ?hc ?hr); case hc => rfl)
  | ((with_reducible refine iteCF ?hc ?hr); case hc => rfl))
local macro_rules | `(tactic| walk_at "go") => `(tactic| repeat walk_at "s")
section
variable {P : Program} {w : World} {K : PySem.W.Frag} {mg : Str → Option Value} {base : Heap}
def Pr (n : Int) : Prop := 2 ≤ n ∧ ∀ d : Int, 2 ≤ d → d * d ≤ n → n % d ≠ 0
end
abbrev s__law_draw : Stmt := top 35
theorem sc__law_draw : FnScope ["pool", "size", "cell", "value"] ["pool", "size"] (defScope s__law_draw) := ⟨rfl, rfl, rfl, by decide +kernel, rfl, by decide +kernel, by decide +kernel⟩
def KeepP (p : Addr) (H H' : Hp) : Prop := ∀ b o, b ≠ p → H b = some o → H' b = some o
theorem KeepP.refl (p : Addr) (H : Hp) : KeepP p H H := fun _ _ _ h => h
theorem keepP_pool {H0 H : Hp} {p : Addr} {o u : HO} (s : KeepP p H0 H) (_h : H0 p = some u) (_hu : poolO u = true) : KeepP p H0 (upd H p o) := fun b x n e => by
  rw [upd_ne n]
  exact s b x n e
section
variable {P : Program} {w : World} {K : PySem.W.Frag} {mg : Str → Option Value} {base : Heap}
def spDrawP : Sp := fun vs H Q _ => ∃ (p c : Addr) (n : Int), vs = [.ref p, .int n] ∧ PoolAt H p c ∧ 0 < n ∧ n < 1073741824 ∧
  ∀ v H', 0 ≤ v → v < n → PoolAt H' p c → KeepP p H H' → Q (.int v) H'
set_option maxHeartbeats 1000000 in
theorem ok_law_drawP {f : Addr} {fd : FuncData} (F : Fun K "_law_draw" "_law_draw" s__law_draw f fd) (B : Blt mg) : FnOk P w K mg base CX0 1 f fd ["pool", "size"] spDrawP := by
  refine F.ok sc__law_draw (fun vs H Q E h => ?_) (fun cdv A outer s H vs Q E hr h => ?_)
  · obtain ⟨p, c, n, rfl, _⟩ := h
    rfl
  · obtain ⟨p, c, n, rfl, ⟨ns, i, m, t, b, z, h1, h2, i0, t0, t1⟩, n0, n1, q⟩ := h
    have hu := hu_of hr
    refine ⟨_, (C8.pss_cut (ps_if (PW.pt (pw_and (pt_cmpR op_le (pe_ix (kixl (K := K) rfl) (pv 0) pe_int (fun _ _ => rfl)) pe_int (nomark _)) (pw_and (pt_cmpR op_le (pe_ix (kixl (K := K) rfl) (pv 0) pe_int (fun _ _ => rfl)) pe_int (nomark _)) (pw_and1 (pt_cmpR op_lt (pe_ix (kixl (K := K) rfl) (pv 0) pe_int (fun _ _ => rfl)) (pe_callB (klen (K := K) rfl) (by rfl) B.len bt_len (pa_cons (pe_ix (kixl (K := K) rfl) (pv 0) pe_int (fun _ _ => rfl)) pa_nil)) (nomark _)))))) (pss_cons (ps_set (i := 2) sc__law_draw.nd rfl (.inl rfl) (pe_ix (kixl (K := K) rfl) (pe_ix (kixl (K := K) rfl) (pv 0) pe_int (fun _ _ => rfl)) (pe_ix (kixl (K := K) rfl) (pv 0) pe_int (fun _ _ => rfl)) (fun _ _ => rfl)))
      (pss_cons (ps_asg (pe_op op_add (pe_ix (kixl (K := K) rfl) (pv 0) pe_int (fun _ _ => rfl)) pe_int) (pg_sub (pv 0) pe_int set_list))
      (pss_cons (ps_asg (pe_op op_mod (pe_callTy call_int1 (by rfl) B.int bt_int (pa_cons (pe_op op_add (pe_op op_mul (pe_ix (kixl (K := K) rfl) (pv 0) pe_int (fun _ _ => rfl)) pe_int) (pv 2)) pa_nil)) pe_int) (pg_sub (pv 0) pe_int set_list))
      (pss_cons (ps_asg pe_int (pg_sub (pv 0) pe_int set_list))
      (pss_one (ps_if (pt_cmpR op_ge (pv 2) (pe_op op_pow pe_int pe_int) (nomark _)) (pss_one (ps_asg (pv 2) (pg_sub (pv 0) pe_int set_list))) pss_nil)))))) pss_nil)
      (pss_cons (ps_if (pt_cmpR op_gt (pe_ix (kixl (K := K) rfl) (pv 0) pe_int (fun _ _ => rfl)) pe_int (nomark _)) (pss_cons (ps_set (i := 3) sc__law_draw.nd rfl (.inl rfl) (pe_op op_mod (pe_callTy call_int1 (by rfl) B.int bt_int (pa_cons (pe_ix (kixl (K := K) rfl) (pv 0) pe_int (fun _ _ => rfl)) pa_nil)) (pv 1)))
      (pss_cons (ps_asg (pe_op op_fdiv (pe_ix (kixl (K := K) rfl) (pv 0) pe_int (fun _ _ => rfl)) (pv 1)) (pg_sub (pv 0) pe_int set_list))
      (pss_cons (ps_asg pe_int (pg_sub (pv 0) pe_int set_list))
      (pss_one (ps_ret (pv 3)))))) pss_nil)
      (pss_cons (ps_asg (pe_op op_sub (pe_ix (kixl (K := K) rfl) (pv 0) pe_int (fun _ _ => rfl)) pe_int) (pg_sub (pv 0) pe_int set_list))
      (pss_cons (ps_asg (pe_op op_mod (pe_callTy call_int1 (by rfl) B.int bt_int (pa_cons (pe_op op_add (pe_op op_mul (pe_ix (kixl (K := K) rfl) (pv 0) pe_int (fun _ _ => rfl)) pe_int) pe_int) pa_nil)) pe_int) (pg_sub (pv 0) pe_int set_list))
      (pss_one (ps_ret (pe_op op_mod (pe_op op_mod (pe_callTy call_int1 (by rfl) B.int bt_int (pa_cons (pe_op op_add (pe_op op_mul (pe_ix (kixl (K := K) rfl) (pv 0) pe_int (fun _ _ => rfl)) pe_int) pe_int) pa_nil)) pe_int) (pv 1)))))))), ?_⟩
    have ncp : c ≠ p := fun e => by
      rw [e, h1] at h2
      cases ns with
      | nil => cases h2
      | cons y ys => cases h2
    refine ⟨fun σ' H' => At (∃ (x : Option V) (i m t b : Int), σ' = [some (.ref p), some (.int n), x, none] ∧ H' p = some (.lst [.ref c, .int i, .int m, .int t, .int b, .int z]) ∧ H' c = some (.lst (ns.map V.int)) ∧ 0 ≤ i ∧ 0 ≤ t ∧ t < 2147483647 ∧ KeepP p H H'), ?_, ?_⟩
    · have out : ∃ (x : Option V) (i m t b : Int), (L2.start ["pool", "size", "cell", "value"] [.ref p, .int n]) = [some (.ref p), some (.int n), x, none] ∧ H p = some (.lst [.ref c, .int i, .int m, .int t, .int b, .int z]) ∧ H c = some (.lst (ns.map V.int)) ∧ 0 ≤ i ∧ 0 ≤ t ∧ t < 2147483647 ∧ KeepP p H H :=
        ⟨none, i, m, t, b, rfl, h1, h2, i0, t0, t1, KeepP.refl p H⟩
      walk_at "go"
      refine iteD (fun c1 => ?_) (fun c1 => ?_)
      · walk_at "go"
        refine iteD (fun c2 => ?_) (fun c2 => ?_)
        · walk_at "go"
          refine iteD (fun c3 => ?_) (fun c3 => ?_)
          · have c3' : i < (ns.length : Int) := by
              rw [List.length_map] at c3
              exact c3
            obtain ⟨y, ha⟩ : ∃ y, atI (ns.map V.int) i = some (.int y) := by
              have hlt : i.toNat < ns.length := by omega
              refine ⟨ns[i.toNat], at_of (j := i.toNat) (by omega) ?_⟩
              rw [List.getElem?_map, List.getElem?_eq_getElem hlt]
              rfl
            walk_at "go"
            refine ⟨_, _, _, _, rfl, rfl, SqL.of h2, ha, ?_⟩
            walk_at "go"
            have fin : ∀ (mm : Int) (H' : Hp) (hp : H' p = some (.lst [.ref c, .int (i + 1), .int mm, .int ((t * 31 + y) % 2147483647), .int 7, .int z])) (hc : H' c = some (.lst (ns.map V.int))) (hk : KeepP p H H'),
                ∃ (x : Option V) (i m t b : Int), ((L2.start ["pool", "size", "cell", "value"] [.ref p, .int n]).set 2 (some (V.int y))) = [some (.ref p), some (.int n), x, none] ∧ H' p = some (.lst [.ref c, .int i, .int m, .int t, .int b, .int z]) ∧ H' c = some (.lst (ns.map V.int)) ∧ 0 ≤ i ∧ 0 ≤ t ∧ t < 2147483647 ∧ KeepP p H H' :=
              fun mm H' hp hc hk => ⟨_, i + 1, mm, _, 7, rfl, hp, hc, by omega, by omega, by omega, hk⟩
            refine iteD (fun c4 => ?_) (fun c4 => ?_)
            · walk_at "go"
              exact .of (fin _ _ upd_same (by rw [upd_ne ncp, upd_ne ncp, upd_ne ncp, upd_ne ncp]; exact h2) (keepP_pool (keepP_pool (keepP_pool (keepP_pool (KeepP.refl p H) h1 rfl) h1 rfl) h1 rfl) h1 rfl))
            · walk_at "go"
              exact .of (fin _ _ upd_same (by rw [upd_ne ncp, upd_ne ncp, upd_ne ncp]; exact h2) (keepP_pool (keepP_pool (keepP_pool (KeepP.refl p H) h1 rfl) h1 rfl) h1 rfl))
          · walk_at "go"
            exact .of out
        · walk_at "go"
          exact .of out
      · walk_at "go"
        exact .of out
    · intro σ' H' hW
      obtain ⟨x, i, m, t, b, rfl, h1', h2', i0, t0, t1, hk⟩ := hW.out
      have fin : ∀ (v : Int) (mm tt bb : Int) (H2 : Hp), 0 ≤ v → v < n → H2 p = some (.lst [.ref c, .int i, .int mm, .int tt, .int bb, .int z]) → H2 c = some (.lst (ns.map V.int)) → 0 ≤ tt → tt < 2147483647 → KeepP p H H2 → Q (.int v) H2 :=
        fun v mm tt bb H2 v0 v1 a1 a2 a3 a4 a5 => q v H2 v0 v1 ⟨ns, i, mm, tt, bb, z, a1, a2, i0, a3, a4⟩ a5
      walk_at "go"
      refine iteD (fun c1 => ?_) (fun c1 => ?_)
      · walk_at "go"
        exact fin _ _ _ _ _ (Int.emod_nonneg _ (by omega)) (Int.emod_lt_of_pos _ n0) upd_same (by rw [upd_ne ncp, upd_ne ncp]; exact h2') t0 t1 (keepP_pool (keepP_pool hk h1 rfl) h1 rfl)
      · walk_at "go"
        exact fin _ _ _ _ _ (Int.emod_nonneg _ (by omega)) (Int.emod_lt_of_pos _ n0) upd_same (by rw [upd_ne ncp, upd_ne ncp]; exact h2') (by omega) (by omega) (keepP_pool (keepP_pool hk h1 rfl) h1 rfl)
end
local macro_rules | `(tactic| walk_at "sd") => `(tactic| first
  | (with_reducible assumption)
  | rfl
  | omega
  | (show CMul _ _; first | (exact Or.inl ⟨by omega, by omega⟩) | (exact Or.inr ⟨by omega, by omega⟩))
  | (show CDiv _ _; exact ⟨by omega, by omega⟩)
  | (show CPow _ _; exact ⟨by decide, by decide, by decide⟩)
  | (show (0 : Int) < _; omega))
local macro_rules | `(tactic| walk_at "nf") => `(tactic| simp only [List.map_cons, List.map_nil, List.cons_append, List.nil_append, List.length_cons, List.length_nil, Nat.reduceAdd, Nat.reduceSub, List.replicate_succ, List.replicate_zero, List.set_cons_zero, List.set_cons_succ, gA])
section
variable {P : Program} {w : World} {K : PySem.W.Frag} {mg : Str → Option Value} {base : Heap}
def rz (p q e k : Int) : Int := e ^ (k % q).toNat % p
def prF (p q : Int) : Int → List (Int × Int) → Int
  | a, [] => a
  | a, (e, k) :: r => prF p q (a * rz p q e k % p) r
def prZ (p q : Int) (l : List (Int × Int)) : Int := prF p q 1 l
end
def aspDraw : ASp := fun ds P => ∃ n : Int, ds = [.pool, .int n] ∧ 0 < n ∧ n < 1073741824 ∧ ∀ v : Int, 0 ≤ v → v < n → P (.int v)
theorem draw {n : Int} {P : Dat → Prop} (h0 : 0 < n) (h1 : n < 1073741824) (h : ∀ v : Int, 0 ≤ v → v < n → P (.int v)) : aspDraw [.pool, .int n] P := ⟨n, rfl, h0, h1, h⟩
theorem sp_draw {K : PySem.W.Frag} {ca : Nat → Addr} : ∀ vs H Q E, toSp K ca aspDraw vs H Q E → spDrawP vs H Q E := fun vs H Q E ⟨po, F, ds, P, ok, r, ⟨n, e, n0, n1, hp⟩, k⟩ => by
  subst e
  cases r with
  | cons r1 r2 =>
    cases r2 with
    | cons r2 r3 =>
      cases r3
      cases r2
      cases r1 with
      | @pool p c e =>
        obtain ⟨h1, h2, h3⟩ := ok.po p c e
        refine ⟨p, c, n, rfl, h1, n0, n1, fun v H' v0 v1 hP kp => k (.int v) F H' _ (hp v v0 v1) ⟨fun _ f => f, fun _ f => .inl f, fun a o ha np => kp a o (np p c e) ha, ⟨fun a f => ?_, fun p' c' e' => ?_⟩⟩ (.int v)⟩
        · cases ea : H a with
          | none => exact absurd ea (ok.tr a f)
          | some o =>
            rw [kp a o (ok.np f p c e) ea]
            exact fun z => by cases z
        · rw [e] at e'
          cases e'
          exact ⟨hP, h2, h3⟩
theorem mt_any {W : Wd} {H0 H1 : Hp} {F : Addr → Prop} {H : Hp} {σ : L2.St} {env : List Sl} (no : ∀ (i : Nat) (xs : List Dat), env[i]? ≠ some (.o xs)) (m : Mt W H0 F H σ env) : Mt W H1 F H σ env :=
  ⟨m.ln, fun i s e => by
    obtain ⟨ov, e1, r⟩ := m.at_ i s e
    refine ⟨ov, e1, ?_⟩
    cases s with
    | u => trivial
    | d x => exact r
    | o xs => exact absurd e (no i xs), fun i j xs ys a e1 => absurd e1 (no i xs)⟩
theorem mt_startI {W : Wd} {H1 : Hp} {F : Addr → Prop} {H : Hp} {N : List Str} {x : Addr} {vs : List V} {ds : List Dat} (r : RvAll W F H vs ds) (hl : ds.length + 1 ≤ N.length) :
    Mt W H1 F H (L2.start N (.ref x :: vs)) (.u :: (ds.map Sl.d ++ List.replicate (N.length - (ds.length + 1)) .u)) := by
  have m : Mt W H F H (L2.start (N.drop 1) vs) (ds.map Sl.d ++ List.replicate ((N.drop 1).length - ds.length) .u) := mt_start r (by rw [List.length_drop]; omega)
  have e1 : (N.drop 1).length - ds.length = N.length - (ds.length + 1) := by rw [List.length_drop]; omega
  have lv := r.length
  have e2 : L2.start N (.ref x :: vs) = some (.ref x) :: L2.start (N.drop 1) vs := by
    unfold L2.start
    rw [List.length_drop, List.length_cons]
    show some (V.ref x) :: (vs.map some ++ List.replicate (N.length - (vs.length + 1)) none) = _
    rw [show N.length - (vs.length + 1) = N.length - 1 - vs.length by omega]
  rw [e1] at m
  rw [e2]
  have no : ∀ (i : Nat) (xs : List Dat), (ds.map Sl.d ++ List.replicate (N.length - (ds.length + 1)) Sl.u)[i]? ≠ some (.o xs) := fun i xs e => by
    rcases List.mem_append.mp (List.mem_of_getElem? e) with h | h
    · obtain ⟨_, _, z⟩ := List.mem_map.mp h
      cases z
    · cases (List.mem_replicate.mp h).2
  refine ⟨congrArg (· + 1) m.ln, fun i s e => ?_, fun i j xs ys a e => ?_⟩
  · cases i with
    | zero =>
      cases e
      exact ⟨_, rfl, trivial⟩
    | succ i => exact (mt_any no m).at_ i s e
  · cases i with
    | zero => cases e
    | succ i => exact absurd e (no i xs)
theorem fn_init {K : PySem.W.Frag} {ca : Nat → Addr} {c : Nat} {asp : ASpI} {N : List Str} {vs : List V} {H : Hp} {Q : VK} {E : XK} {ts : TS} {ai : List Sl → (List Dat → Prop) → Prop} (h : toSpI K ca c asp vs H Q E) (hs : ∀ po, AIni ⟨K, ca, po⟩ c 0 ts ai)
    (hl : ∀ ds P, asp ds P → ds.length + 1 ≤ N.length) (hb : ∀ ds P, asp ds P → ai (.u :: (ds.map Sl.d ++ List.replicate (N.length - (ds.length + 1)) .u)) P) : ts { nx := fun _ H' => Q .non H', rt := Q } (L2.start N vs) H := by
  obtain ⟨po, F, H1, x, dx, ws, ds, P, rfl, rfl, hx, hdx, hne, ok, r, a, k⟩ := h
  have x1 : Ext ⟨K, ca, po⟩ F H1 F (upd H1 dx (.own x)) := Ext.lay ok hdx
  have hx1 : upd H1 dx (.own x) x = none := by rw [upd_ne (fun z => hne z.symm)]; exact hx
  have x2 : Ext ⟨K, ca, po⟩ F (upd H1 dx (.own x)) F (upd (upd H1 dx (.own x)) x (.ins (ca c) dx [])) := Ext.lay x1.ok hx1
  have x3 := x1.trans ok x2
  exact (hs po).run H1 x dx _ _ F F _ [] [] { nx := fun _ H' => Q .non H', rt := Q } P hx ok x3 (fun f => ok.tr x f hx) upd_same (Nat.le_refl _) (by rw [List.take_zero]; exact .nil) (fun m _ => rfl)
    (mt_startI (r.sub (x3.sub ok)) (hl ds P a)) rfl (hb ds P a) fun es F' H' σ' p e rv => k es F' H' p e rv
theorem sp_lenI {K : PySem.W.Frag} {ca : Nat → Addr} {c : Nat} {asp : ASpI} {n : Nat} (hn : ∀ ds P, asp ds P → ds.length = n) {vs : List V} {H : Hp} {Q : VK} {E : XK} (h : toSpI K ca c asp vs H Q E) : vs.length = n + 1 := by
  obtain ⟨po, F, H1, x, dx, ws, ds, P, rfl, rfl, hx, hdx, hne, ok, r, a, k⟩ := h
  rw [List.length_cons, r.length, hn ds P a]
/-- a call ahead of the attributes -/
def iDrop (ea : AEx) (ai : List Sl → (List Dat → Prop) → Prop) : List Sl → (List Dat → Prop) → Prop := fun env P => ea env fun _ => ai env P
/-- a list or a tuple -/
def sqD (k : Bool) (xs : List Dat) : Dat := match k with
  | true => .tup xs
  | false => .lst xs
theorem kQ_sq {k : Bool} {xs : List Dat} {P : List Dat → Prop} (h : P xs) : kQ k (sqD k xs) P := by
  cases k with
  | true => exact h
  | false => exact h
theorem sp_exI {κ : Type} {K : PySem.W.Frag} {ca : Nat → Addr} {c : Nat} {a : κ → ASpI} {vs : List V} {H : Hp} {Q : VK} {E : XK} (h : toSpI K ca c (fun ds P => ∃ k, a k ds P) vs H Q E) : ∃ k, toSpI K ca c (a k) vs H Q E := by
  obtain ⟨po, F, H1, x, dx, ws, ds, P, e1, e2, hx, hdx, hne, ok, r, ⟨k, a⟩, z⟩ := h
  exact ⟨k, po, F, H1, x, dx, ws, ds, P, e1, e2, hx, hdx, hne, ok, r, a, z⟩
/-- a factor: a base, the name of an unknown; an equation: an element, factors -/
abbrev Fac := Int × Str
abbrev Eqn := Int × List Fac
/-- the number of an unknown -/
def look : List Str → List Int → Str → Int
  | u :: us, x :: xs, v => if u = v then x else look us xs v
  | _, _, _ => 0
/-- for each equation the product of its bases to the numbers of their unknowns -/
def side (p q : Int) (us : List Str) (xs : List Int) (e : Eqn) : Int := prZ p q (e.2.map fun f => (f.1, look us xs f.2))
/-- names that are different, factors with them -/
structure StOk (us : List Str) (eqs : List Eqn) : Prop where
  nd : us.Nodup
  lu : us.length ≤ 100
  le : eqs.length ≤ 1000
  lf : ∀ e ∈ eqs, e.2.length ≤ 1000
  fu : ∀ e ∈ eqs, ∀ f ∈ e.2, f.2 ∈ us
  so : ∀ u ∈ us, PyData.strOk u = true
section
variable {P : Dat → Prop} {p q : Prop}
theorem two_t : two true p q = p := rfl
theorem two_f : two false p q = q := rfl
theorem bQ_bl {b : Bool} {P : Bool → Prop} : bQ (.bl b) P = P b := rfl
theorem dQ_d {x : Dat} : dQ (.d x) P = P x := rfl
theorem dQ2_d {x : Dat} : dQ2 (.d x) P = P x := rfl
theorem dQ2_o {xs : List Dat} : dQ2 (.o xs) P = P (.lst xs) := rfl
theorem oQ_some {α : Type} {x : α} {P : α → Prop} : oQ (some x) P = P x := rfl
theorem oQ2_o {xs : List Dat} {P : List Dat → Prop} : oQ2 (.o xs) P = P xs := rfl
theorem lQ_lst {xs : List Dat} {P : List Dat → Prop} : lQ (.lst xs) P = P xs := rfl
theorem tQ_tup {xs : List Dat} {P : List Dat → Prop} : tQ (.tup xs) P = P xs := rfl
theorem sQ_lst {xs : List Dat} {P : List Dat → Prop} : sQ (.lst xs) P = P xs := rfl
theorem sQ_tup {xs : List Dat} {P : List Dat → Prop} : sQ (.tup xs) P = P xs := rfl
theorem kQ_t {xs : List Dat} {P : List Dat → Prop} : kQ true (.tup xs) P = P xs := rfl
theorem kQ_l {xs : List Dat} {P : List Dat → Prop} : kQ false (.lst xs) P = P xs := rfl
theorem kI_i {C : Int → Int → Prop} {g : Int → Int → Dat} {i j : Int} : kI C g (.int i) (.int j) P = (C i j ∧ P (g i j)) := rfl
theorem kI0_i {g : Int → Int → Dat} {i j : Int} : kI0 g (.int i) (.int j) P = P (g i j) := rfl
theorem kEq_i {n : Bool} {i j : Int} : kEq n (.int i) (.int j) P = P (.bl (if n then !decide (i = j) else decide (i = j))) := rfl
theorem kEq_s {n : Bool} {i j : Str} : kEq n (.str i) (.str j) P = P (.bl (if n then !decide (i = j) else decide (i = j))) := rfl
theorem kEq_b {n : Bool} {i j : Bool} : kEq n (.bl i) (.bl j) P = P (.bl (if n then !decide (i = j) else decide (i = j))) := rfl
theorem kFld_o {c i : Nat} {ds : List Dat} : kFld c i (.obj c ds) P = oQ ds[i]? P := propext ⟨fun h => h.2, fun h => ⟨rfl, h⟩⟩
theorem kIx_l {xs : List Dat} {i : Int} : kIx (.lst xs) (.int i) P = oQ (atI xs i) P := rfl
theorem kIx_t {xs : List Dat} {i : Int} : kIx (.tup xs) (.int i) P = oQ (atI xs i) P := rfl
theorem atD {α : Type} {xs : List α} {z : Int} {j : Nat} {v : α} (e : z = (j : Int)) (h : xs[j]? = some v) : atI xs z = some v := by
  have lt := (List.getElem?_eq_some_iff.mp h).1
  unfold atI ixN
  rw [if_pos (by omega), if_pos (by omega)]
  show xs[z.toNat]? = _
  rw [e, Int.toNat_natCast]
  exact h
theorem atI_0 {α : Type} {x : α} {xs : List α} : atI (x :: xs) 0 = some x := by
  show atI _ ((0 : Nat) : Int) = _
  exact atD rfl rfl
theorem atI_1 {α : Type} {x y : α} {xs : List α} : atI (x :: y :: xs) 1 = some y := by
  show atI _ ((1 : Nat) : Int) = _
  exact atD rfl rfl
theorem atI_2 {α : Type} {x y z : α} {xs : List α} : atI (x :: y :: z :: xs) 2 = some z := by
  show atI _ ((2 : Nat) : Int) = _
  exact atD rfl rfl
theorem atI_3 {α : Type} {x y z t : α} {xs : List α} : atI (x :: y :: z :: t :: xs) 3 = some t := by
  show atI _ ((3 : Nat) : Int) = _
  exact atD rfl rfl
theorem kMax2_i {i j : Int} : kMax2 (.int i) (.int j) P = P (.int (if j > i then j else i)) := rfl
theorem kCatT_t {xs ys : List Dat} : kCatT (.tup xs) (.tup ys) P = (xs.length + ys.length ≤ 100000 ∧ P (.tup (xs ++ ys))) := rfl
theorem kCatL_l {xs ys : List Dat} {P : List Dat → Prop} : kCatL (.lst xs) (.lst ys) P = (xs.length + ys.length ≤ 100000 ∧ P (xs ++ ys)) := rfl
theorem kCatS_s {x y : Str} : kCatS (.str x) (.str y) P = (x.length + y.length ≤ 100000 ∧ P (.str (x ++ y))) := rfl
theorem kInt_i {i : Int} : kInt (.int i) P = P (.int i) := rfl
theorem kNeg_i {i : Int} : kNeg (.int i) P = P (.int (-i)) := rfl
theorem kStr_i {i : Int} : kStr (.int i) P = (i.natAbs < 1000000 ∧ P (.str (toString i))) := rfl
theorem kIsO_o {c : Nat} {ds : List Dat} : kIsO c (.obj c ds) P = P (.bl true) := propext ⟨fun h => h.2, fun h => ⟨rfl, h⟩⟩
theorem aTest_eq {ea : AEx} {env : List Sl} {P : Bool → Prop} : aTest ea env P = ea env fun x => bQ x P := by
  unfold aTest
  congr
  funext x
  cases x <;> rfl
theorem gCons_c {g : ATg} {ag : List Dat → List Sl → (List Sl → Prop) → Prop} {d : Dat} {ds : List Dat} {env : List Sl} {P : List Sl → Prop} : gConsA g ag (d :: ds) env P = g d env fun env2 => ag ds env2 P := rfl
theorem gNil_n {env : List Sl} {P : List Sl → Prop} : gNilA [] env P = P env := rfl
theorem dAt_0 {s : Sl} {r : List Sl} : dAt (s :: r) 0 = s := rfl
theorem dAt_s {s : Sl} {r : List Sl} {i : Nat} : dAt (s :: r) (i + 1) = dAt r i := rfl
end
section
variable {T : String} {P : Dat → Prop}
theorem kIsT_non : kIsT T .non P = P (.bl (decide ("NoneType" = T) || (decide ("NoneType" = "bool") && decide (T = "int")))) := rfl
theorem kIsT_bl {b : Bool} : kIsT T (.bl b) P = P (.bl (decide ("bool" = T) || (decide ("bool" = "bool") && decide (T = "int")))) := rfl
theorem kIsT_int {b : Int} : kIsT T (.int b) P = P (.bl (decide ("int" = T) || (decide ("int" = "bool") && decide (T = "int")))) := rfl
theorem kIsT_str {b : Str} : kIsT T (.str b) P = P (.bl (decide ("str" = T) || (decide ("str" = "bool") && decide (T = "int")))) := rfl
theorem kIsT_lst {b : List Dat} : kIsT T (.lst b) P = P (.bl (decide ("list" = T) || (decide ("list" = "bool") && decide (T = "int")))) := rfl
theorem kIsT_tup {b : List Dat} : kIsT T (.tup b) P = P (.bl (decide ("tuple" = T) || (decide ("tuple" = "bool") && decide (T = "int")))) := rfl
theorem kIsN_non {n : Bool} : kIsN n .non .non P = P (.bl (!n)) := rfl
theorem kIsN_bl {n b : Bool} : kIsN n (.bl b) .non P = P (.bl n) := rfl
theorem kIsN_int {n : Bool} {b : Int} : kIsN n (.int b) .non P = P (.bl n) := rfl
theorem kIsN_str {n : Bool} {b : Str} : kIsN n (.str b) .non P = P (.bl n) := rfl
theorem kIsN_lst {n : Bool} {b : List Dat} : kIsN n (.lst b) .non P = P (.bl n) := rfl
theorem kIsN_tup {n : Bool} {b : List Dat} : kIsN n (.tup b) .non P = P (.bl n) := rfl
theorem kIsN_obj {n : Bool} {c : Nat} {b : List Dat} : kIsN n (.obj c b) .non P = P (.bl n) := rfl
theorem kEq_nn {n : Bool} : kEq n .non .non P = P (.bl (!n)) := rfl
end
theorem lcA_filL {α : Type} {f : α → Dat} {xs : List α} {el : Dat → (Option Dat → Prop) → Prop} {P : List Dat → Prop} (g : α → Dat) (c : α → Bool) (h : ∀ x ∈ xs, ∀ Q : Option Dat → Prop, (c x = true → Q (some (g x))) → (c x = false → Q none) → el (f x) Q) (k : P ((xs.filter c).map g)) : lcA el P (xs.map f) [] := by
  have gen : ∀ (ys : List α) (acc : List Dat), (∀ x ∈ ys, ∀ Q : Option Dat → Prop, (c x = true → Q (some (g x))) → (c x = false → Q none) → el (f x) Q) → P (acc ++ (ys.filter c).map g) → lcA el P (ys.map f) acc := by
    intro ys
    induction ys with
    | nil =>
      intro acc _ k
      rw [List.filter_nil, List.map_nil, List.append_nil] at k
      exact k
    | cons y ys ih =>
      intro acc h k
      refine h y List.mem_cons_self _ (fun e => ?_) (fun e => ?_)
      · show lcA el P (ys.map f) (acc ++ [g y])
        refine ih _ (fun x hx => h x (List.mem_cons_of_mem _ hx)) ?_
        rw [List.filter_cons, e, if_pos rfl, List.map_cons] at k
        rw [List.append_assoc]
        exact k
      · show lcA el P (ys.map f) acc
        refine ih _ (fun x hx => h x (List.mem_cons_of_mem _ hx)) ?_
        rw [List.filter_cons, e, if_neg Bool.false_ne_true] at k
        exact k
  exact gen xs [] h k
theorem ix_any {α : Type} {f : α → Dat} {xs : List α} {v : Int} {P : Dat → Prop} (h0 : 0 ≤ v) (h1 : v < xs.length) (h : ∀ x ∈ xs, P (f x)) : kIx (.lst (xs.map f)) (.int v) P := by
  have lt : v.toNat < xs.length := by omega
  rw [kIx_l, atD (j := v.toNat) (v := f xs[v.toNat]) (by omega) (by rw [List.getElem?_map, List.getElem?_eq_getElem lt]; rfl)]
  exact h _ (List.getElem_mem lt)
theorem ix_at {α : Type} {f : α → Dat} {xs : List α} {v : Int} {j : Nat} {x : α} {P : Dat → Prop} (e : v = (j : Int)) (h1 : xs[j]? = some x) (h : P (f x)) : kIx (.lst (xs.map f)) (.int v) P := by
  rw [kIx_l, atD (j := j) (v := f x) e (by rw [List.getElem?_map, h1]; rfl)]
  exact h
theorem oa_at {α : Type} {f : α → Dat} {xs : List α} {v : Int} {j : Nat} {x : α} {P : Dat → Prop} (e : v = (j : Int)) (h1 : xs[j]? = some x) (h : P (f x)) : oQ (atI (xs.map f) v) P := ix_at (f := f) e h1 h
theorem oa_any {α : Type} {f : α → Dat} {xs : List α} {v : Int} {P : Dat → Prop} (h0 : 0 ≤ v) (h1 : v < xs.length) (h : ∀ x ∈ xs, P (f x)) : oQ (atI (xs.map f) v) P := ix_any (f := f) h0 h1 h
theorem cut_nat {xs : List Dat} {a b : Nat} (h : a ≤ b) : cutD xs (some (a : Int)) (some (b : Int)) = (xs.drop a).take (b - a) := by
  unfold cutD
  rw [show HT.sIx xs.length 0 (some (a : Int)) = min a xs.length from HT.sIx_nat _ _ _, show HT.sIx xs.length xs.length (some (b : Int)) = min b xs.length from HT.sIx_nat _ _ _]
  by_cases ha : a ≤ xs.length
  · rw [Nat.min_eq_left ha]
    by_cases hb : b ≤ xs.length
    · rw [Nat.min_eq_left hb]
    · rw [Nat.min_eq_right (by omega), List.take_of_length_le (by rw [List.length_drop]; omega), List.take_of_length_le (by rw [List.length_drop]; omega)]
  · rw [Nat.min_eq_right (by omega), Nat.min_eq_right (by omega), List.drop_eq_nil_of_le (by omega), List.drop_eq_nil_of_le (by omega)]
    simp
theorem cut_to {xs : List Dat} {b : Nat} : cutD xs none (some (b : Int)) = xs.take b := by
  have h := cut_nat (xs := xs) (a := 0) (b := b) (Nat.zero_le b)
  rw [List.drop_zero, Nat.sub_zero] at h
  rw [← h]
  unfold cutD
  rw [show HT.sIx xs.length 0 (some ((0 : Nat) : Int)) = 0 by rw [show HT.sIx xs.length 0 (some ((0 : Nat) : Int)) = min 0 xs.length from HT.sIx_nat _ _ _]; exact Nat.zero_min _]
  rfl
theorem cut_from {xs : List Dat} {a : Nat} : cutD xs (some (a : Int)) none = xs.drop a := by
  unfold cutD
  rw [show HT.sIx xs.length 0 (some (a : Int)) = min a xs.length from HT.sIx_nat _ _ _, show HT.sIx xs.length xs.length none = xs.length from rfl]
  by_cases ha : a ≤ xs.length
  · rw [Nat.min_eq_left ha, List.take_of_length_le (by rw [List.length_drop]; omega)]
  · rw [Nat.min_eq_right (by omega), List.drop_eq_nil_of_le (by omega), List.drop_eq_nil_of_le (by omega)]
    simp
/-- what comes after a statement, by a name: nothing looks into it -/
theorem seqG {a b : ASt} {D : AEnds} {env : List Sl} (h : ∀ N : List Sl → Prop, N = b D → a { D with nx := N } env) : sSeq a b D env := h _ rfl
local macro_rules | `(tactic| walk_at "dd") => `(tactic| simp only [elA, sSeq, sNext, sIf, sAsg, sSetO, sRet, sRetN, sDrop, sPar, sFz, sApp, sAug, sFor, oQ2_o, dQ_d, dQ2_d, dQ2_o, dAt_0, dAt_s, aVar, aPeek, aC, aFz, a2, a2F, a1, a1F, aCons, aNil, aTup, aTest_eq, aNot, aAnd, aOr, bQ_bl, aAndV, aOrV, aNotV, aIf, aChain, kI_i, kI0_i, kEq_i, kEq_s, kEq_b, kFld_o, oQ_some, aCall, aMeth, aMake, iSeq, lQ_lst, tQ_tup, sQ_lst, sQ_tup, iRan, gA, gTu, gNil_n, gCons_c, aLc, wipeA, kLen, kTupOf, kQ_t, kQ_l, iZipA, iEnA, aSlF, aSlT, aoN, aoS, aRevT, aRevL, kMax2_i, kCatS_s, kCatT_t, kCatL_l, kInt_i, kNeg_i, true_and, aYes, iCons, iNil, iDrop, kIsO_o, two_t, two_f, kIx_l, kIx_t, atI_0, atI_1, atI_2, atI_3, Bool.false_eq_true, if_false, if_true, kStr_i, kIsT_non, kIsT_bl, kIsT_int, kIsT_str, kIsT_lst, kIsT_tup, kIsN_non, kIsN_bl, kIsN_int, kIsN_str, kIsN_lst, kIsN_tup, kIsN_obj, kEq_nn, String.reduceEq, decide_true, decide_false, Bool.or_false, Bool.false_or, Bool.true_or, Bool.or_true, Bool.and_true, Bool.true_and, Bool.and_false, Bool.false_and, Bool.not_true, Bool.not_false, reduceCtorEq,
  List.map_cons, List.map_nil, List.cons_append, List.nil_append, List.length_cons, List.length_nil, Nat.reduceAdd, Nat.reduceSub, List.replicate_succ, List.replicate_zero, List.set_cons_zero, List.set_cons_succ, List.getElem?_cons_zero, List.getElem?_cons_succ])
local macro_rules | `(tactic| walk_at "dx") => `(tactic| simp only [elA, sNext, sAsg, sSetO, sRet, sRetN, sDrop, sPar, sFz, sApp, sAug, sFor, oQ2_o, dQ_d, dQ2_d, dQ2_o, dAt_0, dAt_s, aVar, aPeek, aC, aFz, a2, a2F, a1, a1F, aCons, aNil, aTup, aTest_eq, aNot, aAnd, aOr, bQ_bl, aAndV, aOrV, aNotV, aIf, aChain, kI_i, kI0_i, kEq_i, kEq_s, kEq_b, kFld_o, oQ_some, aCall, aMeth, aMake, iSeq, lQ_lst, tQ_tup, sQ_lst, sQ_tup, iRan, gA, gTu, gNil_n, gCons_c, aLc, wipeA, kLen, kTupOf, kQ_t, kQ_l, iZipA, iEnA, aSlF, aSlT, aoN, aoS, aRevT, aRevL, kMax2_i, kCatS_s, kCatT_t, kCatL_l, kInt_i, kNeg_i, true_and, aYes, iCons, iNil, iDrop, kIsO_o, two_t, two_f, kIx_l, kIx_t, atI_0, atI_1, atI_2, atI_3, Bool.false_eq_true, if_false, if_true, kStr_i, kIsT_non, kIsT_bl, kIsT_int, kIsT_str, kIsT_lst, kIsT_tup, kIsN_non, kIsN_bl, kIsN_int, kIsN_str, kIsN_lst, kIsN_tup, kIsN_obj, kEq_nn, String.reduceEq, decide_true, decide_false, Bool.or_false, Bool.false_or, Bool.true_or, Bool.or_true, Bool.and_true, Bool.true_and, Bool.and_false, Bool.false_and, Bool.not_true, Bool.not_false, reduceCtorEq,
  List.map_cons, List.map_nil, List.cons_append, List.nil_append, List.length_cons, List.length_nil, Nat.reduceAdd, Nat.reduceSub, List.replicate_succ, List.replicate_zero, List.set_cons_zero, List.set_cons_succ, List.getElem?_cons_zero, List.getElem?_cons_succ])
local macro_rules | `(tactic| walk_at "dk") => `(tactic| simp -implicitDefEqProofs only [elA, sSeq, sNext, sIf, sAsg, sSetO, sRet, sRetN, sDrop, sPar, sFz, sApp, sAug, sFor, oQ2_o, dQ_d, dQ2_d, dQ2_o, dAt_0, dAt_s, aVar, aPeek, aC, aFz, a2, a2F, a1, a1F, aCons, aNil, aTup, aTest_eq, aNot, aAnd, aOr, bQ_bl, aAndV, aOrV, aNotV, aIf, aChain, kI_i, kI0_i, kEq_i, kEq_s, kEq_b, kFld_o, oQ_some, aCall, aMeth, aMake, iSeq, lQ_lst, tQ_tup, sQ_lst, sQ_tup, iRan, gA, gTu, gNil_n, gCons_c, aLc, wipeA, kLen, kTupOf, kQ_t, kQ_l, iZipA, iEnA, aSlF, aSlT, aoN, aoS, aRevT, aRevL, kMax2_i, kCatS_s, kCatT_t, kCatL_l, kInt_i, kNeg_i, true_and, aYes, iCons, iNil, iDrop, kIsO_o, two_t, two_f, kIx_l, kIx_t, atI_0, atI_1, atI_2, atI_3, Bool.false_eq_true, if_false, if_true, kStr_i, kIsT_non, kIsT_bl, kIsT_int, kIsT_str, kIsT_lst, kIsT_tup, kIsN_non, kIsN_bl, kIsN_int, kIsN_str, kIsN_lst, kIsN_tup, kIsN_obj, kEq_nn, String.reduceEq, decide_true, decide_false, Bool.or_false, Bool.false_or, Bool.true_or, Bool.or_true, Bool.and_true, Bool.true_and, Bool.and_false, Bool.false_and, Bool.not_true, Bool.not_false, reduceCtorEq,
  List.map_cons, List.map_nil, List.cons_append, List.nil_append, List.length_cons, List.length_nil, Nat.reduceAdd, Nat.reduceSub, List.replicate_succ, List.replicate_zero, List.set_cons_zero, List.set_cons_succ, List.getElem?_cons_zero, List.getElem?_cons_succ])
local macro_rules | `(tactic| walk_at "dy") => `(tactic| simp -implicitDefEqProofs only [elA, sNext, sAsg, sSetO, sRet, sRetN, sDrop, sPar, sFz, sApp, sAug, sFor, oQ2_o, dQ_d, dQ2_d, dQ2_o, dAt_0, dAt_s, aVar, aPeek, aC, aFz, a2, a2F, a1, a1F, aCons, aNil, aTup, aTest_eq, aNot, aAnd, aOr, bQ_bl, aAndV, aOrV, aNotV, aIf, aChain, kI_i, kI0_i, kEq_i, kEq_s, kEq_b, kFld_o, oQ_some, aCall, aMeth, aMake, iSeq, lQ_lst, tQ_tup, sQ_lst, sQ_tup, iRan, gA, gTu, gNil_n, gCons_c, aLc, wipeA, kLen, kTupOf, kQ_t, kQ_l, iZipA, iEnA, aSlF, aSlT, aoN, aoS, aRevT, aRevL, kMax2_i, kCatS_s, kCatT_t, kCatL_l, kInt_i, kNeg_i, true_and, aYes, iCons, iNil, iDrop, kIsO_o, two_t, two_f, kIx_l, kIx_t, atI_0, atI_1, atI_2, atI_3, Bool.false_eq_true, if_false, if_true, kStr_i, kIsT_non, kIsT_bl, kIsT_int, kIsT_str, kIsT_lst, kIsT_tup, kIsN_non, kIsN_bl, kIsN_int, kIsN_str, kIsN_lst, kIsN_tup, kIsN_obj, kEq_nn, String.reduceEq, decide_true, decide_false, Bool.or_false, Bool.false_or, Bool.true_or, Bool.or_true, Bool.and_true, Bool.true_and, Bool.and_false, Bool.false_and, Bool.not_true, Bool.not_false, reduceCtorEq,
  List.map_cons, List.map_nil, List.cons_append, List.nil_append, List.length_cons, List.length_nil, Nat.reduceAdd, Nat.reduceSub, List.replicate_succ, List.replicate_zero, List.set_cons_zero, List.set_cons_succ, List.getElem?_cons_zero, List.getElem?_cons_succ])
theorem okE_str {x : Str} (h : PyData.strOk x = true) (n : Nat) : okE n (.str x) := ⟨h, Nat.zero_le n⟩
theorem okE_two {a b : Dat} {n : Nat} (h1 : okE n a) (h2 : okE n b) : ∀ d ∈ [a, b], okE n d := fun d hd => by
  rcases List.mem_cons.mp hd with rfl | hd
  · exact h1
  · rw [List.mem_singleton.mp hd]
    exact h2
mutual
/-- data without objects, dicts, the pool -/
def plD : Dat → Bool
  | .non => true
  | .bl _ => true
  | .int _ => true
  | .str _ => true
  | .lst xs => plAll xs
  | .tup xs => plAll xs
  | _ => false
def plAll : List Dat → Bool
  | [] => true
  | x :: xs => plD x && plAll xs
end
theorem plAll_get : ∀ {xs : List Dat} {i : Nat} {x : Dat}, plAll xs = true → xs[i]? = some x → plD x = true
  | [], _, _, _, e => by cases e
  | y :: ys, 0, x, h, e => by
    have h : (plD y && plAll ys) = true := h
    rw [Bool.and_eq_true] at h
    cases e
    exact h.1
  | y :: ys, i + 1, x, h, e => by
    have h : (plD y && plAll ys) = true := h
    rw [Bool.and_eq_true] at h
    exact plAll_get h.2 (i := i) (by simpa using e)
/-- what _law_same compares with, of so many levels -/
def okS : Nat → Dat → Prop
  | _, .non => True
  | _, .bl _ => True
  | _, .int _ => True
  | _, .str _ => True
  | n + 1, .lst ds => ds.length ≤ 1000000 ∧ ∀ d ∈ ds, okS n d
  | n + 1, .tup ds => ds.length ≤ 1000000 ∧ ∀ d ∈ ds, okS n d
  | _, _ => False
abbrev s__law_same : Stmt := top 36
theorem sc__law_same : FnScope ["actual", "due", "k"] ["actual", "due"] (defScope s__law_same) := ⟨rfl, rfl, rfl, by decide +kernel, rfl, by decide +kernel, by decide +kernel⟩
section
variable {P : Program} {w : World} {K : PySem.W.Frag} {mg : Str → Option Value} {base : Heap} {ca : Nat → Addr}
def aspSame : Nat → ASp
  | 0 => fun _ _ => False
  | n + 1 => fun ds P => ∃ a d : Dat, ds = [a, d] ∧ plD a = true ∧ okS n d ∧ ∀ b : Bool, (b = true ↔ a = d) → P (.bl b)
theorem same_step {n : Nat} {f : Addr} {fd : FuncData} (F : Fun K "_law_same" "_law_same" s__law_same f fd) (B : Blt mg) (C__law_same : C8.Cal P w K mg base n "_law_same" (toSp K ca (aspSame n)) []) : FnOk P w K mg base CX0 (n + 1) f fd ["actual", "due"] (toSp K ca (aspSame (n + 1))) := by
  refine F.ok sc__law_same (fun vs H Q E h => sp_len (n := 2) (fun ds P a => by obtain ⟨_, _, rfl, _⟩ := a; rfl) h) (fun cdv A outer s H vs Q E hr h => ⟨_, (pss_cons (ps_if (PW.pt (pw_or (pt_val (pe_callB (kisi (K := K) rfl) (by rfl) B.isinstance bt_isinstance (pa_cons (pv 1) (pa_cons (pe_bltn (v := .ty "tuple") (u := .type "tuple") (by rfl) B.tuple bt_tuple rfl) pa_nil)))) (pw_or1 (pt_val (pe_callB (kisi (K := K) rfl) (by rfl) B.isinstance bt_isinstance (pa_cons (pv 1) (pa_cons (pe_bltn (v := .ty "list") (u := .type "list") (by rfl) B.list bt_list rfl) pa_nil))))))) (pss_cons (ps_if (PW.pt (pw_or (pt_cmpR op_ne (pe_callB (kisi (K := K) rfl) (by rfl) B.isinstance bt_isinstance (pa_cons (pv 1) (pa_cons (pe_bltn (v := .ty "tuple") (u := .type "tuple") (by rfl) B.tuple bt_tuple rfl) pa_nil))) (pe_callB (kisi (K := K) rfl) (by rfl) B.isinstance bt_isinstance (pa_cons (pv 0) (pa_cons (pe_bltn (v := .ty "tuple") (u := .type "tuple") (by rfl) B.tuple bt_tuple rfl) pa_nil))) (nomark _)) (pw_or1 (pt_cmpR op_ne (pe_callB (kisi (K := K) rfl) (by rfl) B.isinstance bt_isinstance (pa_cons (pv 1) (pa_cons (pe_bltn (v := .ty "list") (u := .type "list") (by rfl) B.list bt_list rfl) pa_nil))) (pe_callB (kisi (K := K) rfl) (by rfl) B.isinstance bt_isinstance (pa_cons (pv 0) (pa_cons (pe_bltn (v := .ty "list") (u := .type "list") (by rfl) B.list bt_list rfl) pa_nil))) (nomark _))))) (pss_one (ps_ret pe_bl)) pss_nil)
      (pss_cons (ps_if (pt_cmpR op_ne (pe_callB (klen (K := K) rfl) (by rfl) B.len bt_len (pa_cons (pv 0) pa_nil)) (pe_callB (klen (K := K) rfl) (by rfl) B.len bt_len (pa_cons (pv 1) pa_nil)) (nomark _)) (pss_one (ps_ret pe_bl)) pss_nil)
      (pss_cons (ps_for PassesOwn.never rfl (pi_range1 rfl B.range (pa_cons (pe_callB (klen (K := K) rfl) (by rfl) B.len bt_len (pa_cons (pv 1) pa_nil)) pa_nil)) (pg_name (i := 2) sc__law_same.nd rfl (.inl rfl))
      (pss_one (ps_if (pt_not (pt_val (C8.pe_c C__law_same hr (by omega) rfl (pa_cons (pe_ix (kixs (K := K) rfl) (pv 0) (pv 2) (fun _ _ => rfl)) (pa_cons (pe_ix (kixs (K := K) rfl) (pv 1) (pv 2) (fun _ _ => rfl)) pa_nil))))) (pss_one (ps_ret pe_bl)) pss_nil)))
      (pss_one (ps_ret pe_bl))))) pss_nil)
      (pss_cons (ps_if (PW.pt (pw_or (pt_cmpR op_isN (pv 1) pe_non (nomark _)) (pw_or1 (pt_val (pe_callB (kisi (K := K) rfl) (by rfl) B.isinstance bt_isinstance (pa_cons (pv 1) (pa_cons (pe_bltn (v := .ty "bool") (u := .type "bool") (by rfl) B.bool bt_bool rfl) pa_nil))))))) (pss_one (ps_ret (pe_and (pe_cmpR op_eq (pe_cmpR op_isN (pv 0) pe_non (nomark _)) (pe_cmpR op_isN (pv 1) pe_non (nomark _)) (nomark _)) (pe_and (pe_or (pe_cmpR op_isN (pv 1) pe_non (nomark _)) (pe_one (pe_callB (kisi (K := K) rfl) (by rfl) B.isinstance bt_isinstance (pa_cons (pv 0) (pa_cons (pe_bltn (v := .ty "bool") (u := .type "bool") (by rfl) B.bool bt_bool rfl) pa_nil))))) (pe_one (pe_cmpR op_eq (pv 0) (pv 1) (nomark _))))))) pss_nil)
      (pss_cons (ps_if (pt_val (pe_callB (kisi (K := K) rfl) (by rfl) B.isinstance bt_isinstance (pa_cons (pv 1) (pa_cons (pe_bltn (v := .ty "int") (u := .type "int") (by rfl) B.int bt_int rfl) pa_nil)))) (pss_one (ps_ret (pe_and (pe_callB (kisi (K := K) rfl) (by rfl) B.isinstance bt_isinstance (pa_cons (pv 0) (pa_cons (pe_bltn (v := .ty "int") (u := .type "int") (by rfl) B.int bt_int rfl) pa_nil))) (pe_and (pe_not (pe_callB (kisi (K := K) rfl) (by rfl) B.isinstance bt_isinstance (pa_cons (pv 0) (pa_cons (pe_bltn (v := .ty "bool") (u := .type "bool") (by rfl) B.bool bt_bool rfl) pa_nil)))) (pe_one (pe_cmpR op_eq (pv 0) (pv 1) (nomark _))))))) pss_nil)
      (pss_one (ps_ret (pe_and (pe_callB (kisi (K := K) rfl) (by rfl) B.isinstance bt_isinstance (pa_cons (pv 0) (pa_cons (pe_bltn (v := .ty "str") (u := .type "str") (by rfl) B.str bt_str rfl) pa_nil))) (pe_one (pe_cmpR op_eq (pv 0) (pv 1) (nomark _))))))))),
    fn_run h (fun po => (s_seq (s_if (fun _ => (a_or (a_tb (a_isT (by decide) a_var)) (a_tb (a_isT (by decide) a_var)))) (s_seq (s_if (fun _ => (a_or (a_test (a_op pst_rv rok_ne (a_isT (by decide) a_var) (a_isT (by decide) a_var))) (a_test (a_op pst_rv rok_ne (a_isT (by decide) a_var) (a_isT (by decide) a_var))))) (s_ret fun _ => a_bl) s_next)
      (s_seq (s_if (fun _ => (a_test (a_op pst_rv rok_ne (a_b1 u_len (a_pk a_var)) (a_b1 u_len (a_pk a_var))))) (s_ret fun _ => a_bl) s_next)
      (s_seq (s_for (vs := [2]) (fun _ => (i_ran1 (a_cons (a_b1 u_len (a_pk a_var)) a_nil))) (fun _ => (g_name (by decide)))
      (s_if (fun _ => (a_not (a_tb (a_call (a_cons (a_op pst_pk rok_ix (a_pk a_var) a_var) (a_cons (a_op pst_pk rok_ix (a_pk a_var) a_var) a_nil)))))) (s_ret fun _ => a_bl) s_next))
      (s_ret fun _ => a_bl)))) s_next)
      (s_seq (s_if (fun _ => (a_or (a_test (a_op pst_rv rok_isN a_var a_non)) (a_tb (a_isT (by decide) a_var)))) (s_ret fun _ => (a_andV (a_op pst_rv rok_eq (a_op pst_rv rok_isN a_var a_non) (a_op pst_rv rok_isN a_var a_non)) (a_andV (a_orV (a_op pst_rv rok_isN a_var a_non) (a_isT (by decide) a_var)) (a_op pst_rv rok_eq a_var a_var)))) s_next)
      (s_seq (s_if (fun _ => (a_tb (a_isT (by decide) a_var))) (s_ret fun _ => (a_andV (a_isT (by decide) a_var) (a_andV (a_notV (a_isT (by decide) a_var)) (a_op pst_rv rok_eq a_var a_var)))) s_next)
      (s_ret fun _ => (a_andV (a_isT (by decide) a_var) (a_op pst_rv rok_eq a_var a_var))))))) (fun ds P a => by obtain ⟨_, _, rfl, _⟩ := a; exact Nat.le_of_ble_eq_true rfl) ?_⟩)
  rintro ds P ⟨a, d, rfl, ha, hd, hp⟩
  have no : ∀ {x : Bool}, x = false → ¬ a = d → P (.bl x) := fun {x} e h => hp x ⟨fun z => (by rw [e] at z; cases z), fun z => absurd z h⟩
  refine seqG fun N0 hN0 => ?_
  cases d with
  | non => cases a <;> first | (cases ha; done) | (walk_at "dd"; subst hN0; walk_at "dd"; exact hp _ (by simp))
  | bl b => cases a <;> first | (cases ha; done) | (walk_at "dd"; subst hN0; walk_at "dd"; exact hp _ (by simp))
  | int b => cases a <;> first | (cases ha; done) | (walk_at "dd"; subst hN0; walk_at "dd"; exact hp _ (by simp))
  | str b => cases a <;> first | (cases ha; done) | (walk_at "dd"; subst hN0; walk_at "dd"; exact hp _ (by simp))
  | lst ys =>
    obtain ⟨n, rfl⟩ : ∃ m, n = m + 1 := by
      cases n with
      | zero => exact hd.elim
      | succ n => exact ⟨n, rfl⟩
    obtain ⟨hl, hd⟩ := hd
    cases a with
    | lst xs =>
      walk_at "dd"
      refine twoN (fun e => ?_) (fun e => ?_)
      · refine no rfl fun z => e ?_
        rw [Dat.lst.injEq] at z
        rw [z]
      · have el : xs.length = ys.length := by omega
        refine ⟨by omega, by omega, ?_⟩
        refine forA_ran (fun i env => ∃ y, env = [.d (.lst xs), .d (.lst ys), y] ∧ ∀ j < i, xs[j]? = ys[j]?) ⟨_, rfl, fun j hj => absurd hj (Nat.not_lt_zero _)⟩ ?_ ?_
        · rintro i env hi ⟨y, rfl, hj⟩ N hN
          have hie : i < ys.length := by omega
          have hid : i < xs.length := by omega
          walk_at "dd"
          rw [atD (Int.zero_add _) (List.getElem?_eq_getElem hid), atD (Int.zero_add _) (List.getElem?_eq_getElem hie)]
          refine ⟨_, _, rfl, plAll_get (show plAll xs = true from ha) (List.getElem?_eq_getElem hid), hd _ (List.getElem_mem hie), fun b hb => ?_⟩
          walk_at "dd"
          cases b with
          | true =>
            refine hN _ ⟨_, rfl, fun j h => ?_⟩
            by_cases hji : j < i
            · exact hj j hji
            · have : j = i := by omega
              subst this
              rw [List.getElem?_eq_getElem hid, List.getElem?_eq_getElem hie, hb.mp rfl]
          | false =>
            refine no rfl fun z => ?_
            rw [Dat.lst.injEq] at z
            subst z
            exact absurd (hb.mpr rfl) (by decide)
        · rintro env ⟨y, rfl, hj⟩
          walk_at "dd"
          refine hp _ ⟨fun _ => ?_, fun _ => rfl⟩
          congr 1
          refine List.ext_getElem? fun j => ?_
          by_cases h : j < ys.length
          · exact hj j h
          · rw [List.getElem?_eq_none (by omega), List.getElem?_eq_none (by omega)]
    | non => walk_at "dd"; exact no rfl (by simp)
    | bl b => walk_at "dd"; exact no rfl (by simp)
    | int b => walk_at "dd"; exact no rfl (by simp)
    | str b => walk_at "dd"; exact no rfl (by simp)
    | tup b => walk_at "dd"; exact no rfl (by simp)
    | _ => cases ha
  | tup ys =>
    obtain ⟨n, rfl⟩ : ∃ m, n = m + 1 := by
      cases n with
      | zero => exact hd.elim
      | succ n => exact ⟨n, rfl⟩
    obtain ⟨hl, hd⟩ := hd
    cases a with
    | tup xs =>
      walk_at "dd"
      refine twoN (fun e => ?_) (fun e => ?_)
      · refine no rfl fun z => e ?_
        rw [Dat.tup.injEq] at z
        rw [z]
      · have el : xs.length = ys.length := by omega
        refine ⟨by omega, by omega, ?_⟩
        refine forA_ran (fun i env => ∃ y, env = [.d (.tup xs), .d (.tup ys), y] ∧ ∀ j < i, xs[j]? = ys[j]?) ⟨_, rfl, fun j hj => absurd hj (Nat.not_lt_zero _)⟩ ?_ ?_
        · rintro i env hi ⟨y, rfl, hj⟩ N hN
          have hie : i < ys.length := by omega
          have hid : i < xs.length := by omega
          walk_at "dd"
          rw [atD (Int.zero_add _) (List.getElem?_eq_getElem hid), atD (Int.zero_add _) (List.getElem?_eq_getElem hie)]
          refine ⟨_, _, rfl, plAll_get (show plAll xs = true from ha) (List.getElem?_eq_getElem hid), hd _ (List.getElem_mem hie), fun b hb => ?_⟩
          walk_at "dd"
          cases b with
          | true =>
            refine hN _ ⟨_, rfl, fun j h => ?_⟩
            by_cases hji : j < i
            · exact hj j hji
            · have : j = i := by omega
              subst this
              rw [List.getElem?_eq_getElem hid, List.getElem?_eq_getElem hie, hb.mp rfl]
          | false =>
            refine no rfl fun z => ?_
            rw [Dat.tup.injEq] at z
            subst z
            exact absurd (hb.mpr rfl) (by decide)
        · rintro env ⟨y, rfl, hj⟩
          walk_at "dd"
          refine hp _ ⟨fun _ => ?_, fun _ => rfl⟩
          congr 1
          refine List.ext_getElem? fun j => ?_
          by_cases h : j < ys.length
          · exact hj j h
          · rw [List.getElem?_eq_none (by omega), List.getElem?_eq_none (by omega)]
    | non => walk_at "dd"; exact no rfl (by simp)
    | bl b => walk_at "dd"; exact no rfl (by simp)
    | int b => walk_at "dd"; exact no rfl (by simp)
    | str b => walk_at "dd"; exact no rfl (by simp)
    | lst b => walk_at "dd"; exact no rfl (by simp)
    | _ => cases ha
  | pool => cases n <;> exact hd.elim
  | obj c xs => cases n <;> exact hd.elim
  | dK xs => cases n <;> exact hd.elim
  | dT ks xs => cases n <;> exact hd.elim
  | rng lo hi => cases n <;> exact hd.elim
  | cell xs => cases n <;> exact hd.elim
theorem ok_law_same {f : Addr} {fd : FuncData} (F : Fun K "_law_same" "_law_same" s__law_same f fd) (B : Blt mg) (mf : mg "_law_same" = some (.ref f)) (bf : Binds K fd ["actual", "due"] []) :
    ∀ n, FnOk P w K mg base CX0 n f fd ["actual", "due"] (toSp K ca (aspSame n))
  | 0 => ⟨fun _ _ _ _ ⟨_, _, _, _, _, _, h, _⟩ => h.elim, fun _ _ _ _ _ _ _ _ _ _ _ _ _ ⟨_, _, _, _, _, _, h, _⟩ => h.elim⟩
  | n + 1 => same_step F B ⟨⟨f, fd, _, [], ok_law_same F B mf bf n, mf, F.kp, bf, .nil⟩⟩
end
def sNever : ASt := fun _ _ => False
theorem s_never {W : Wd} : AStm W tNever sNever := ⟨fun _ _ _ _ _ _ _ _ _ _ _ _ _ _ h => False.elim h⟩
def flD : Dat → Prop
  | .non => True
  | .bl _ => True
  | .int _ => True
  | .str _ => True
  | _ => False
section
variable {P : Program} {w : World} {K : PySem.W.Frag} {mg : Str → Option Value} {base : Heap} {ca : Nat → Addr}
def aspSameW : ASp := fun ds P => ∃ a d : Dat, ds = [a, d] ∧ plD a = true ∧ flD d ∧ ∀ b : Bool, (b = true ↔ a = d) → P (.bl b)
theorem ok_law_sameW {f : Addr} {fd : FuncData} (F : Fun K "_law_same" "_law_same" s__law_same f fd) (B : Blt mg) : FnW P w K mg base 1 f fd ["actual", "due"] (toSp K ca aspSameW) := by
  refine fun_okW F sc__law_same (fun vs H Q E h => sp_len (n := 2) (fun ds P a => by obtain ⟨_, _, rfl, _⟩ := a; rfl) h) (fun cdv A outer s H vs Q E hr h => ⟨_, (pss_cons (ps_if (PW.pt (pw_or (pt_val (pe_callB (kisi (K := K) rfl) (by rfl) B.isinstance bt_isinstance (pa_cons (pv 1) (pa_cons (pe_bltn (v := .ty "tuple") (u := .type "tuple") (by rfl) B.tuple bt_tuple rfl) pa_nil)))) (pw_or1 (pt_val (pe_callB (kisi (K := K) rfl) (by rfl) B.isinstance bt_isinstance (pa_cons (pv 1) (pa_cons (pe_bltn (v := .ty "list") (u := .type "list") (by rfl) B.list bt_list rfl) pa_nil))))))) pss_never pss_nil)
      (pss_cons (ps_if (PW.pt (pw_or (pt_cmpR op_isN (pv 1) pe_non (nomark _)) (pw_or1 (pt_val (pe_callB (kisi (K := K) rfl) (by rfl) B.isinstance bt_isinstance (pa_cons (pv 1) (pa_cons (pe_bltn (v := .ty "bool") (u := .type "bool") (by rfl) B.bool bt_bool rfl) pa_nil))))))) (pss_one (ps_ret (pe_and (pe_cmpR op_eq (pe_cmpR op_isN (pv 0) pe_non (nomark _)) (pe_cmpR op_isN (pv 1) pe_non (nomark _)) (nomark _)) (pe_and (pe_or (pe_cmpR op_isN (pv 1) pe_non (nomark _)) (pe_one (pe_callB (kisi (K := K) rfl) (by rfl) B.isinstance bt_isinstance (pa_cons (pv 0) (pa_cons (pe_bltn (v := .ty "bool") (u := .type "bool") (by rfl) B.bool bt_bool rfl) pa_nil))))) (pe_one (pe_cmpR op_eq (pv 0) (pv 1) (nomark _))))))) pss_nil)
      (pss_cons (ps_if (pt_val (pe_callB (kisi (K := K) rfl) (by rfl) B.isinstance bt_isinstance (pa_cons (pv 1) (pa_cons (pe_bltn (v := .ty "int") (u := .type "int") (by rfl) B.int bt_int rfl) pa_nil)))) (pss_one (ps_ret (pe_and (pe_callB (kisi (K := K) rfl) (by rfl) B.isinstance bt_isinstance (pa_cons (pv 0) (pa_cons (pe_bltn (v := .ty "int") (u := .type "int") (by rfl) B.int bt_int rfl) pa_nil))) (pe_and (pe_not (pe_callB (kisi (K := K) rfl) (by rfl) B.isinstance bt_isinstance (pa_cons (pv 0) (pa_cons (pe_bltn (v := .ty "bool") (u := .type "bool") (by rfl) B.bool bt_bool rfl) pa_nil)))) (pe_one (pe_cmpR op_eq (pv 0) (pv 1) (nomark _))))))) pss_nil)
      (pss_one (ps_ret (pe_and (pe_callB (kisi (K := K) rfl) (by rfl) B.isinstance bt_isinstance (pa_cons (pv 0) (pa_cons (pe_bltn (v := .ty "str") (u := .type "str") (by rfl) B.str bt_str rfl) pa_nil))) (pe_one (pe_cmpR op_eq (pv 0) (pv 1) (nomark _))))))))),
    fn_run h (fun po => (s_seq (s_if (fun _ => (a_or (a_tb (a_isT (by decide) a_var)) (a_tb (a_isT (by decide) a_var)))) s_never s_next)
      (s_seq (s_if (fun _ => (a_or (a_test (a_op pst_rv rok_isN a_var a_non)) (a_tb (a_isT (by decide) a_var)))) (s_ret fun _ => (a_andV (a_op pst_rv rok_eq (a_op pst_rv rok_isN a_var a_non) (a_op pst_rv rok_isN a_var a_non)) (a_andV (a_orV (a_op pst_rv rok_isN a_var a_non) (a_isT (by decide) a_var)) (a_op pst_rv rok_eq a_var a_var)))) s_next)
      (s_seq (s_if (fun _ => (a_tb (a_isT (by decide) a_var))) (s_ret fun _ => (a_andV (a_isT (by decide) a_var) (a_andV (a_notV (a_isT (by decide) a_var)) (a_op pst_rv rok_eq a_var a_var)))) s_next)
      (s_ret fun _ => (a_andV (a_isT (by decide) a_var) (a_op pst_rv rok_eq a_var a_var))))))) (fun ds P a => by obtain ⟨_, _, rfl, _⟩ := a; exact Nat.le_of_ble_eq_true rfl) ?_⟩)
  rintro ds P ⟨a, d, rfl, ha, hd, hp⟩
  cases d with
  | non => cases a <;> first | (cases ha; done) | (walk_at "dd"; exact hp _ (by simp))
  | bl b => cases a <;> first | (cases ha; done) | (walk_at "dd"; exact hp _ (by simp))
  | int b => cases a <;> first | (cases ha; done) | (walk_at "dd"; exact hp _ (by simp))
  | str b => cases a <;> first | (cases ha; done) | (walk_at "dd"; exact hp _ (by simp))
  | _ => exact hd.elim
end
/-- what the table's rows are -/
structure Row (p q R : Int) : Prop where
  p3 : 3 ≤ p
  pm : p ≤ 1000000
  q3 : 3 ≤ q
  qm : q ≤ 1100
  dv : (p - 1) % q = 0
  pp : Pr p
  qp : Pr q
  r1 : 1 < R
  rp : R < p
  rq : R ^ q.toNat % p = 1
  ro : ∀ e : Nat, 1 ≤ e → (e : Int) < q → R ^ e % p ≠ 1
/-- the powers of the root are different -/
theorem Row.inj {p q R : Int} (r : Row p q R) {i j : Nat} (hij : i < j) (hj : (j : Int) < q) : R ^ i % p ≠ R ^ j % p := by
  intro e
  have qn : ∃ n : Nat, q = n := ⟨q.toNat, by have := r.q3; omega⟩
  obtain ⟨n, rfl⟩ := qn
  have e2 : R ^ i * R ^ (n - i) % p = R ^ j * R ^ (n - i) % p := by rw [← mul_emod_l, e, mul_emod_l]
  rw [← Int.pow_add, ← Int.pow_add, show i + (n - i) = n by omega, show j + (n - i) = n + (j - i) by omega, Int.pow_add, ← mul_emod_l] at e2
  have rq := r.rq
  rw [Int.toNat_natCast] at rq
  rw [rq, Int.one_mul] at e2
  exact r.ro (j - i) (by omega) (by omega) e2.symm
theorem mm (a b p : Int) : a % p * (b % p) % p = a * b % p := (Int.mul_emod a b p).symm
/-- the unknowns of a law's statement -/
def nmX (k : Nat) : Str := ("x" : Str) ++ (toString (0 + (k : Int)) : Str)
def nms (n : Nat) : List Str := (List.range n).map nmX
theorem nms_ok : ∀ n < 4, (nms n).Nodup ∧ ∀ u ∈ nms n, PyData.strOk u = true := by decide +kernel
/-- a base, as far as the sums ask -/
def Rt (p q b : Int) : Prop := 0 ≤ b ∧ b < p ∧ b ^ q.toNat % p = 1
/-- what the law draws: a statement that values satisfy -/
structure LSt (p q : Int) (us : List Str) (eqs : List Eqn) (vs : List Int) (most : Int) : Prop where
  un : us = nms vs.length
  l3 : vs.length ≤ 3
  le : (eqs.length : Int) ≤ most
  lf : ∀ e ∈ eqs, e.2.length ≤ 3
  fu : ∀ e ∈ eqs, ∀ f ∈ e.2, f.2 ∈ us ∧ Rt p q f.1
  el : ∀ e ∈ eqs, e.1 = side p q us vs e
theorem LSt.so {p q : Int} {us : List Str} {eqs : List Eqn} {vs : List Int} {most : Int} (h : LSt p q us eqs vs most) (hm : most ≤ 100) : StOk us eqs := by
  have l3 := h.l3
  have le := h.le
  obtain ⟨n1, n2⟩ := nms_ok vs.length (by omega)
  have un := h.un
  subst un
  exact ⟨n1, by unfold nms; rw [List.length_map, List.length_range]; omega, by omega, fun e he => by have := h.lf e he; omega, fun e he f hf => (h.fu e he f hf).1, n2⟩
theorem same_end {a d : Dat} {P : Dat → Prop} {n : Nat} (hx : plD a = true) (hy : okS n d) (e : a = d) (h : P (.bl true)) : aspSame (n + 1) [a, d] P := ⟨a, d, rfl, hx, hy, fun b hb => by
  have := hb.mpr e
  subst this
  exact h⟩
theorem okS_str (n : Nat) (i : Str) : okS n (.str i) := by cases n <;> trivial
theorem atI_last {α : Type} {xs : List α} {x : α} : atI (xs ++ [x]) (-1) = some x := by
  unfold atI ixN
  rw [if_neg (by decide), if_pos (by rw [List.length_append, List.length_singleton]; omega)]
  show (xs ++ [x])[((-1 : Int) + ((xs ++ [x]).length : Nat)).toNat]? = some x
  rw [List.length_append, List.length_singleton, show ((-1 : Int) + ((xs.length + 1 : Nat) : Int)).toNat = xs.length by omega, List.getElem?_append_right (Nat.le_refl _), Nat.sub_self]
  rfl
theorem kstar {X : Cx} {K : PySem.W.Frag} (hK : X.K = K) {e : Expr} {es : List Expr} {p : Pos} {te : TE} {t : TA} (he : PE X e te) (hr : PA X es t) (hs : starEach (.Starred e p :: es) X.env = (true, eval e X.env) :: starEach es X.env := by rfl) : PA X (.Starred e p :: es) (StX.tStar K te t) := by
  subst hK
  exact StX.pa_star he hr hs
/-- arguments, as many as there are -/
structure AArs (W : Wd) (H0 : Hp) (ta : TA) (aa : AFr) : Prop where
  run : ∀ (σ : L2.St) (env : List Sl) (F : Addr → Prop) (H : Hp) (Q : List V → Hp → Prop) (P : List Dat → Prop), Okk W F H → Mt W H0 F H σ env → aa env P →
    (∀ ds F' H' vs, P ds → Ext W F H F' H' → RvAll W F' H' vs ds → Q vs H') → ta σ H Q
def aStar (ea : AEx) (er : AFr) : AFr := fun env P => ea env fun x => sQ x fun xs => er env fun ys => P (xs ++ ys)
def aSz (aa : AFr) : AFr := fun env P => aa env fun ds => ds.length ≤ 100000 ∧ P ds
section
variable {W : Wd} {H0 : Hp} {te ta tb : TE} {ae ea eb : AEx}
theorem a_nilS : AArs W H0 tNil aNil := ⟨fun _ _ F H _ _ ok _ h k => k [] F H [] h (.refl ok) .nil⟩
theorem a_consS {tr : TA} {er : AFr} (ha : AExp W H0 ta ea) (hr : AArs W H0 tr er) : AArs W H0 (tCons ta tr) (aCons ea er) :=
  ⟨fun σ env F H Q P ok m q k => ha.run σ env F H _ _ ok m q fun d F1 H1 v p1 x1 r1 => hr.run σ env F1 H1 _ _ x1.ok (m.ext ok x1) p1 fun ds F2 H2 vs p2 x2 r2 =>
    k (d :: ds) F2 H2 (v :: vs) p2 (x1.trans ok x2) (.cons (r1.sub (x2.sub x1.ok)) r2)⟩
theorem a_starS {tr : TA} {er : AFr} (ha : AEg Pk W H0 ta ea) (hr : AArs W H0 tr er) : AArs W H0 (StX.tStar W.K ta tr) (aStar ea er) :=
  ⟨fun σ env F H Q P ok m q k => ha.run σ env F H _ _ ok m q fun d F1 H1 v p1 x1 r1 => by
    obtain ⟨a, vs, xs, rfl, h, rr, p, _⟩ := r1.seq x1.ok p1
    refine ⟨a, vs, rfl, h.symm, hr.run σ env F1 H1 _ _ x1.ok (m.ext ok x1) p fun ds F2 H2 ws p2 x2 r2 => ?_⟩
    exact k (xs ++ ds) F2 H2 (vs ++ ws) p2 (x1.trans ok x2) ((rr.sub (x2.sub x1.ok)).append r2)⟩
theorem a_lstS {tr : TA} {aa : AFr} (h : AArs W H0 tr aa) : AFrs W H0 (tLst tr) (aSz aa) :=
  ⟨fun σ env F H Q P ok m q k => h.run σ env F H _ _ ok m q fun ds F1 H1 vs p1 x1 r1 => ⟨Nat.le_of_lt (len_size (by rw [r1.length]; exact p1.1)), fun a n => by
    have x2 : Ext W F1 H1 _ _ := Ext.lay (o := .lst vs) x1.ok n
    exact k ds _ _ a vs p1.2 (x1.trans ok x2) (x1.there ok n) (fun f => x1.ok.tr a f n) upd_same (r1.sub (x2.sub x1.ok))⟩⟩
end
theorem forA_suf {α : Type} {f : α → Dat} {g : ATg} {b : ASt} {D : AEnds} (W : List α → List Sl → Prop) (hs : ∀ x xs env, W (x :: xs) env → ∀ N : List Sl → Prop, (∀ env', W xs env' → N env') → g (f x) env fun env2 => b { D with nx := N, ct := N, bk := D.nx } env2)
    (hd : ∀ env, W [] env → D.nx env) : ∀ xs env, W xs env → forA g b D (xs.map f) env
  | [], env, h => hd env h
  | x :: xs, env, h => hs x xs env h (forA g b D (xs.map f)) fun env' w => forA_suf W hs hd xs env' w
structure CT (K : PySem.W.Frag) (C : Addr) : Prop where
  cl : Cls K C
  n_statement : NoAttr K C "statement"
  n_choices : NoAttr K C "choices"
local macro_rules | `(tactic| walk_at "bv") => `(tactic| simp only [upV, upVF, upVT, vwS_d, vwS_u, vwS_o, vw_n, vw_b, vw_i, vw_s, vw_p, vw_l, vw_t, vw_o, vw_d, ftD_i, ftD_s, ftD_b, ftD_n, ftD_t, ftAll_n, ftAll_c, bDget, zPutD, bPn, bPc, bDisp, bMethX, bSeq, kMin2_i, aDget2, bk_dk, bk_ks, bk_dd, bk_st, kDget_s, dg_c, dg_n, kIxS_i, ofS_inj, Sum.inr.injEq, reduceIte, kInt_bl, Option.getD_none, Option.getD_some, zRaise, bCallX, bFldC, zSetF, bMake2, bFrzO, coQ_o, isC_c, upE, upF, upT, bFz, bCel, b2, b2F, b1, b1F, bNil, bCons, bTup, bTest, bNot, bAnd, bOr, bAndV, bOrV, bNotV, bIf, bCall, bCallF, bCall2, bFrz, elB, bLc, bYes, zNext, zSeq, zIf, zAsg, zSetO, zRet, zRetN, zDrop, zPar, zApp, zFz, zAug, zFor, zAppC, zPutC, zPutO, dId, drf_l, drf_t, drf_i, drf_s, drf_b, drf_n, drf_c, drf_o, drc_l, ceQ_c, inQ_i, cQ_l, Sto.put_s, elA, sSeq, sNext, sIf, sAsg, sSetO, sRet, sRetN, sDrop, sPar, sFz, sApp, sAug, sFor, oQ2_o, dQ_d, dQ2_d, dQ2_o, dAt_0, dAt_s, aVar, aPeek, aC, aFz, a2, a2F, a1, a1F, aCons, aNil, aTup, aTest_eq, aNot, aAnd, aOr, bQ_bl, aAndV, aOrV, aNotV, aIf, aChain, kI_i, kI0_i, kEq_i, kEq_s, kEq_b, kFld_o, oQ_some, aCall, aMeth, aMake, iSeq, lQ_lst, tQ_tup, sQ_lst, sQ_tup, iRan, gA, gTu, gNil_n, gCons_c, aLc, wipeA, kLen, kTupOf, kQ_t, kQ_l, iZipA, iEnA, aSlF, aSlT, aoN, aoS, aRevT, aRevL, kMax2_i, kCatS_s, kCatT_t, kCatL_l, kInt_i, kNeg_i, true_and, aYes, iCons, iNil, iDrop, kIsO_o, two_t, two_f, kIx_l, kIx_t, atI_0, atI_1, atI_2, atI_3, Bool.false_eq_true, if_false, if_true, kStr_i, kIsT_non, kIsT_bl, kIsT_int, kIsT_str, kIsT_lst, kIsT_tup, kIsN_non, kIsN_bl, kIsN_int, kIsN_str, kIsN_lst, kIsN_tup, kIsN_obj, kEq_nn, String.reduceEq, decide_true, decide_false, Bool.or_false, Bool.false_or, Bool.true_or, Bool.or_true, Bool.and_true, Bool.true_and, Bool.and_false, Bool.false_and, Bool.not_true, Bool.not_false, reduceCtorEq,   List.map_cons, List.map_nil, List.cons_append, List.nil_append, List.length_cons, List.length_nil, Nat.reduceAdd, Nat.reduceSub, List.replicate_succ, List.replicate_zero, List.set_cons_zero, List.set_cons_succ, List.getElem?_cons_zero, List.getElem?_cons_succ])
local macro_rules | `(tactic| walk_at "bw") => `(tactic| simp only [upV, upVF, upVT, vwS_d, vwS_u, vwS_o, vw_n, vw_b, vw_i, vw_s, vw_p, vw_l, vw_t, vw_o, vw_d, ftD_i, ftD_s, ftD_b, ftD_n, ftD_t, ftAll_n, ftAll_c, bDget, zPutD, bPn, bPc, bDisp, bMethX, bSeq, kMin2_i, aDget2, bk_dk, bk_ks, bk_dd, bk_st, kDget_s, dg_c, dg_n, kIxS_i, ofS_inj, Sum.inr.injEq, reduceIte, kInt_bl, Option.getD_none, Option.getD_some, zRaise, bCallX, bFldC, zSetF, bMake2, bFrzO, coQ_o, isC_c, upE, upF, upT, bFz, bCel, b2, b2F, b1, b1F, bNil, bCons, bTup, bTest, bNot, bAnd, bOr, bAndV, bOrV, bNotV, bIf, bCall, bCallF, bCall2, bFrz, elB, bLc, bYes, zNext, zIf, zAsg, zSetO, zRet, zRetN, zDrop, zPar, zApp, zFz, zAug, zFor, zAppC, zPutC, zPutO, dId, drf_l, drf_t, drf_i, drf_s, drf_b, drf_n, drf_c, drf_o, drc_l, ceQ_c, inQ_i, cQ_l, Sto.put_s, elA, sNext, sIf, sAsg, sSetO, sRet, sRetN, sDrop, sPar, sFz, sApp, sAug, sFor, oQ2_o, dQ_d, dQ2_d, dQ2_o, dAt_0, dAt_s, aVar, aPeek, aC, aFz, a2, a2F, a1, a1F, aCons, aNil, aTup, aTest_eq, aNot, aAnd, aOr, bQ_bl, aAndV, aOrV, aNotV, aIf, aChain, kI_i, kI0_i, kEq_i, kEq_s, kEq_b, kFld_o, oQ_some, aCall, aMeth, aMake, iSeq, lQ_lst, tQ_tup, sQ_lst, sQ_tup, iRan, gA, gTu, gNil_n, gCons_c, aLc, wipeA, kLen, kTupOf, kQ_t, kQ_l, iZipA, iEnA, aSlF, aSlT, aoN, aoS, aRevT, aRevL, kMax2_i, kCatS_s, kCatT_t, kCatL_l, kInt_i, kNeg_i, true_and, aYes, iCons, iNil, iDrop, kIsO_o, two_t, two_f, kIx_l, kIx_t, atI_0, atI_1, atI_2, atI_3, Bool.false_eq_true, if_false, if_true, kStr_i, kIsT_non, kIsT_bl, kIsT_int, kIsT_str, kIsT_lst, kIsT_tup, kIsN_non, kIsN_bl, kIsN_int, kIsN_str, kIsN_lst, kIsN_tup, kIsN_obj, kEq_nn, String.reduceEq, decide_true, decide_false, Bool.or_false, Bool.false_or, Bool.true_or, Bool.or_true, Bool.and_true, Bool.true_and, Bool.and_false, Bool.false_and, Bool.not_true, Bool.not_false, reduceCtorEq,   List.map_cons, List.map_nil, List.cons_append, List.nil_append, List.length_cons, List.length_nil, Nat.reduceAdd, Nat.reduceSub, List.replicate_succ, List.replicate_zero, List.set_cons_zero, List.set_cons_succ, List.getElem?_cons_zero, List.getElem?_cons_succ])
local macro_rules | `(tactic| walk_at "ds") => `(tactic| simp only [kMin2_i, aDget2, bk_dd, bk_st, kDget_s, dg_c, dg_n, kIxS_i, ofS_inj, Sum.inr.injEq, reduceIte, kInt_bl, Option.getD_none, Option.getD_some, elA, sSeq, sNext, sIf, sAsg, sSetO, sRet, sRetN, sDrop, sPar, sFz, sApp, sAug, sFor, oQ2_o, dQ_d, dQ2_d, dQ2_o, dAt_0, dAt_s, aVar, aPeek, aC, aFz, a2, a2F, a1, a1F, aCons, aNil, aTup, aTest_eq, aNot, aAnd, aOr, bQ_bl, aAndV, aOrV, aNotV, aIf, aChain, kI_i, kI0_i, kEq_i, kEq_s, kEq_b, kFld_o, oQ_some, aCall, aMeth, aMake, iSeq, lQ_lst, tQ_tup, sQ_lst, sQ_tup, iRan, gA, gTu, gNil_n, gCons_c, aLc, wipeA, kLen, kTupOf, kQ_t, kQ_l, iZipA, iEnA, aSlF, aSlT, aoN, aoS, aRevT, aRevL, kMax2_i, kCatS_s, kCatT_t, kCatL_l, kInt_i, kNeg_i, true_and, aYes, iCons, iNil, iDrop, kIsO_o, two_t, two_f, kIx_l, kIx_t, atI_0, atI_1, atI_2, atI_3, Bool.false_eq_true, if_false, if_true, kStr_i, kIsT_non, kIsT_bl, kIsT_int, kIsT_str, kIsT_lst, kIsT_tup, kIsN_non, kIsN_bl, kIsN_int, kIsN_str, kIsN_lst, kIsN_tup, kIsN_obj, kEq_nn, String.reduceEq, decide_true, decide_false, Bool.or_false, Bool.false_or, Bool.true_or, Bool.or_true, Bool.and_true, Bool.true_and, Bool.and_false, Bool.false_and, Bool.not_true, Bool.not_false, reduceCtorEq,
  List.map_cons, List.map_nil, List.cons_append, List.nil_append, List.length_cons, List.length_nil, Nat.reduceAdd, Nat.reduceSub, List.replicate_succ, List.replicate_zero, List.set_cons_zero, List.set_cons_succ, List.getElem?_cons_zero, List.getElem?_cons_succ])
local macro_rules | `(tactic| walk_at "wb") => `(tactic| first | walk_at "bw" | skip)
local macro_rules | `(tactic| walk_at "wv") => `(tactic| first | walk_at "bv" | skip)
abbrev s_Kind___init__ : Stmt := inClass (top 32) 0
theorem sc_Kind___init__ : FnScope ["self", "name", "fields", "field", "many"] ["self", "name", "fields"] (defScope s_Kind___init__) := ⟨rfl, rfl, rfl, by decide +kernel, rfl, by decide +kernel, by decide +kernel⟩
abbrev Fld := Str × Int
def fmD (x : Fld) : Dat := .tup [.str x.1, .int x.2]
def kdO (n : Str) (fs : List Fld) : Dat := .obj 3 [.str n, .tup (fs.map fmD)]
section
variable {P : Program} {w : World} {K : PySem.W.Frag} {mg : Str → Option Value} {base : Heap} {ca : Nat → Addr}
def aspKdIK (k : Bool) : ASpI := fun ds P => ∃ (n : Str) (fs : List Fld), ds = [.str n, sqD k (fs.map fmD)] ∧ fs.length ≤ 1000 ∧ P [.str n, .tup (fs.map fmD)]
def aspKdI : ASpI := fun ds P => ∃ k, aspKdIK k ds P
theorem ok_kd_init {f : Addr} {fd : FuncData} (F : Fun K "__init__" "Kind.__init__" s_Kind___init__ f fd) (T3 : KdT K (ca 3)) (B : Blt mg) : FnOk P w K mg base CX0 1 f fd ["self", "name", "fields"] (toSpI K ca 3 aspKdI) := by
  refine F.ok sc_Kind___init__ (fun vs H Q E h => by obtain ⟨k, h⟩ := sp_exI h; exact sp_lenI (n := 2) (fun ds P a => by obtain ⟨_, _, rfl, _⟩ := a; rfl) h) (fun cdv A outer s H vs Q E hr h => ?_)
  obtain ⟨k, h⟩ := sp_exI h
  refine ⟨_, (pss_cons (ps_fld (pv 0) (pv 1) rfl)
      (pss_cons (ps_fld (pv 0) (pe_callTy (ktupF (K := K) rfl) (by rfl) B.tuple bt_tuple (pa_cons (pe_lc (own := [("field", 3), ("many", 4)]) (tt := tYes) rfl sc_Kind___init__.nd (pi_K k (K := K) rfl (pv 2)) (blkOk_by (N := ["self", "name", "fields", "field", "many"]) (sc := defScope s_Kind___init__) (by decide +kernel))
        (fun _ _ _ _ _ => (kgtup (K := K) (n := 2) rfl rfl (pgs_cons (pg_name (i := 3) sc_Kind___init__.nd rfl (.inl rfl)) (pgs_cons (pg_name (i := 4) sc_Kind___init__.nd rfl (.inl rfl)) pgs_nil)))) (fun _ _ _ _ _ => pts_nil)
        (fun _ _ _ _ _ => (pe_tupF (pa_cons (pv 3) (pa_cons (pv 4) pa_nil))))) pa_nil)) rfl) pss_nil)),
    fn_init h (fun po => (i_cons T3.cl T3.n_name (k := 0) rfl (by decide) (by decide) (fun _ => a_var) (i_cons T3.cl T3.n_fields (k := 1) rfl (by decide) (by decide) (fun _ => (a_b1 u_tupOf (a_pk (a_fz (a_lc (vs := [3, 4]) (i_K a_var) (g_tup (g_cons (g_name (by decide)) (g_cons (g_name (by decide)) g_nil tot_name) tot_name)) a_yes (a_tup (a_cons a_var (a_cons a_var a_nil)))))))) i_nil))) (fun ds P a => by obtain ⟨_, _, rfl, _⟩ := a; exact Nat.le_of_ble_eq_true rfl) ?_⟩
  rintro ds P ⟨n, fs, rfl, hl, hp⟩
  walk_at "dd"
  refine kQ_sq ⟨by rw [List.length_map]; omega, ?_⟩
  refine lcA_mapL (g := fmD) (fun x hx Q hQ => hQ) ?_
  exact hp
end
local macro_rules | `(tactic| walk_at "dw1") => `(tactic| simp only [aInG, iG, iSgn, txQ_s, aSplit, aJoin, aLc2, elO, sExt, kStrB_i, kStrB_s, kLenS_s, aRng, iRngA, aLrng, List.take_succ_cons, List.take_zero, List.drop_succ_cons, List.drop_zero, ktQ_2, dTQ_d, dtQ_d, kTGet, aTIn, gStA, kIsLT_l, kIsLT_t, kIsLT_i, kIsLT_s, aSz, aDc, elD, aDIn, aStar, bk_ks, Option.map_some, Option.map_none, Option.isSome_some, Option.isSome_none, kMin2_i, aDget2, bk_dd, bk_st, kDget_s, dg_c, dg_n, kIxS_i, ofS_inj, Sum.inr.injEq, reduceIte, kInt_bl, Option.getD_none, Option.getD_some, elA, sNext, sIf, sAsg, sSetO, sRet, sRetN, sDrop, sPar, sFz, sApp, sAug, sFor, oQ2_o, dQ_d, dQ2_d, dQ2_o, dAt_0, dAt_s, aVar, aPeek, aC, aFz, a2, a2F, a1, a1F, aCons, aNil, aTup, aTest_eq, aNot, aAnd, aOr, bQ_bl, aAndV, aOrV, aNotV, aIf, aChain, kI_i, kI0_i, kEq_i, kEq_s, kEq_b, kFld_o, oQ_some, aCall, aMeth, aMake, iSeq, lQ_lst, tQ_tup, sQ_lst, sQ_tup, iRan, gA, gTu, gNil_n, gCons_c, aLc, wipeA, kLen, kTupOf, kQ_t, kQ_l, iZipA, iEnA, aSlF, aSlT, aoN, aoS, aRevT, aRevL, kMax2_i, kCatS_s, kCatT_t, kCatL_l, kInt_i, kNeg_i, true_and, aYes, iCons, iNil, iDrop, kIsO_o, two_t, two_f, kIx_l, kIx_t, atI_0, atI_1, atI_2, atI_3, Bool.false_eq_true, if_false, if_true, kStr_i, kIsT_non, kIsT_bl, kIsT_int, kIsT_str, kIsT_lst, kIsT_tup, kIsN_non, kIsN_bl, kIsN_int, kIsN_str, kIsN_lst, kIsN_tup, kIsN_obj, kEq_nn, String.reduceEq, decide_true, decide_false, Bool.or_false, Bool.false_or, Bool.true_or, Bool.or_true, Bool.and_true, Bool.true_and, Bool.and_false, Bool.false_and, Bool.not_true, Bool.not_false, reduceCtorEq,
  List.map_cons, List.map_nil, List.cons_append, List.nil_append, List.length_cons, List.length_nil, Nat.reduceAdd, Nat.reduceSub, List.replicate_succ, List.replicate_zero, List.set_cons_zero, List.set_cons_succ, List.getElem?_cons_zero, List.getElem?_cons_succ])
local macro_rules | `(tactic| walk_at "dw") => `(tactic| first | walk_at "dw1" | skip)
local macro_rules | `(tactic| walk_at "wq1") => `(tactic| simp only [zAugF, inQ_i, aInG, iG, iSgn, txQ_s, aSplit, aJoin, aLc2, elO, sExt, kStrB_i, kStrB_s, kLenS_s, aRng, iRngA, aLrng, List.take_succ_cons, List.take_zero, List.drop_succ_cons, List.drop_zero, ktQ_2, dTQ_d, dtQ_d, kTGet, aTIn, gStA, kIsLT_l, kIsLT_t, kIsLT_i, kIsLT_s, zTPut, bTNew, bMeth2, bPop, bRan, aSz, aDc, elD, aDIn, aStar, bk_ks, Option.map_some, Option.map_none, Option.isSome_some, Option.isSome_none, upV, upVF, upVT, vwS_d, vwS_u, vwS_o, vw_n, vw_b, vw_i, vw_s, vw_p, vw_l, vw_t, vw_o, vw_d, ftD_i, ftD_s, ftD_b, ftD_n, ftD_t, ftAll_n, ftAll_c, bDget, zPutD, bPn, bPc, bDisp, bMethX, bSeq, kMin2_i, aDget2, bk_dk, bk_ks, bk_dd, bk_st, kDget_s, dg_c, dg_n, kIxS_i, ofS_inj, Sum.inr.injEq, reduceIte, kInt_bl, Option.getD_none, Option.getD_some, zRaise, bCallX, bFldC, zSetF, bMake2, bFrzO, coQ_o, isC_c, upE, upF, upT, bFz, bCel, b2, b2F, b1, b1F, bNil, bCons, bTup, bTest, bNot, bAnd, bOr, bAndV, bOrV, bNotV, bIf, bCall, bCallF, bCall2, bFrz, elB, bLc, bYes, zNext, zIf, zAsg, zSetO, zRet, zRetN, zDrop, zPar, zApp, zFz, zAug, zFor, zAppC, zPutC, zPutO, dId, drf_l, drf_t, drf_i, drf_s, drf_b, drf_n, drf_c, drf_o, drc_l, ceQ_c, inQ_i, cQ_l, Sto.put_s, elA, sNext, sIf, sAsg, sSetO, sRet, sRetN, sDrop, sPar, sFz, sApp, sAug, sFor, oQ2_o, dQ_d, dQ2_d, dQ2_o, dAt_0, dAt_s, aVar, aPeek, aC, aFz, a2, a2F, a1, a1F, aCons, aNil, aTup, aTest_eq, aNot, aAnd, aOr, bQ_bl, aAndV, aOrV, aNotV, aIf, aChain, kI_i, kI0_i, kEq_i, kEq_s, kEq_b, kFld_o, oQ_some, aCall, aMeth, aMake, iSeq, lQ_lst, tQ_tup, sQ_lst, sQ_tup, iRan, gA, gTu, gNil_n, gCons_c, aLc, wipeA, kLen, kTupOf, kQ_t, kQ_l, iZipA, iEnA, aSlF, aSlT, aoN, aoS, aRevT, aRevL, kMax2_i, kCatS_s, kCatT_t, kCatL_l, kInt_i, kNeg_i, true_and, aYes, iCons, iNil, iDrop, kIsO_o, two_t, two_f, kIx_l, kIx_t, atI_0, atI_1, atI_2, atI_3, Bool.false_eq_true, if_false, if_true, kStr_i, kIsT_non, kIsT_bl, kIsT_int, kIsT_str, kIsT_lst, kIsT_tup, kIsN_non, kIsN_bl, kIsN_int, kIsN_str, kIsN_lst, kIsN_tup, kIsN_obj, kEq_nn, String.reduceEq, decide_true, decide_false, Bool.or_false, Bool.false_or, Bool.true_or, Bool.or_true, Bool.and_true, Bool.true_and, Bool.and_false, Bool.false_and, Bool.not_true, Bool.not_false, reduceCtorEq,   List.map_cons, List.map_nil, List.cons_append, List.nil_append, List.length_cons, List.length_nil, Nat.reduceAdd, Nat.reduceSub, List.replicate_succ, List.replicate_zero, List.set_cons_zero, List.set_cons_succ, List.getElem?_cons_zero, List.getElem?_cons_succ])
local macro_rules | `(tactic| walk_at "wq") => `(tactic| first | walk_at "wq1" | skip)
abbrev s__is_name : Stmt := top 20
theorem sc__is_name : FnScope ["word", "letter"] ["word"] (defScope s__is_name) := ⟨rfl, rfl, rfl, by decide +kernel, rfl, by decide +kernel, by decide +kernel⟩
abbrev s_Reader___init__ : Stmt := inClass (top 19) 0
theorem sc_Reader___init__ : FnScope ["self", "text"] ["self", "text"] (defScope s_Reader___init__) := ⟨rfl, rfl, rfl, by decide +kernel, rfl, by decide +kernel, by decide +kernel⟩
abbrev s_Reader_ahead : Stmt := inClass (top 19) 1
theorem sc_Reader_ahead : FnScope ["self"] ["self"] (defScope s_Reader_ahead) := ⟨rfl, rfl, rfl, by decide +kernel, rfl, by decide +kernel, by decide +kernel⟩
abbrev s_Reader_take : Stmt := inClass (top 19) 2
theorem sc_Reader_take : FnScope ["self", "fitting", "word"] ["self", "fitting"] (defScope s_Reader_take) := ⟨rfl, rfl, rfl, by decide +kernel, rfl, by decide +kernel, by decide +kernel⟩
abbrev s_Reader_take_name : Stmt := inClass (top 19) 3
theorem sc_Reader_take_name : FnScope ["self", "taken", "word"] ["self", "taken"] (defScope s_Reader_take_name) := ⟨rfl, rfl, rfl, by decide +kernel, rfl, by decide +kernel, by decide +kernel⟩
structure GlP (mg : Str → Option Value) : Prop where
  LONGEST_NAME : ∃ t, mg "LONGEST_NAME" = some (.int 8 t)
  MOST_CARDS : ∃ t, mg "MOST_CARDS" = some (.int 3 t)
  MOST_ISSUERS : ∃ t, mg "MOST_ISSUERS" = some (.int 3 t)
  MOST_CONDITIONS : ∃ t, mg "MOST_CONDITIONS" = some (.int 6 t)
  FIRST_TOO_LONG : ∃ t, mg "FIRST_TOO_LONG" = some (.int 100 t)
  LETTERS : ∃ t, mg "LETTERS" = some (.str "abcdefghijklmnopqrstuvwxyz" t)
structure RdT (K : PySem.W.Frag) (C : Addr) : Prop where
  cl : Cls K C
  n_words : NoAttr K C "words"
  n_at : NoAttr K C "at"
def kwS : List Str := ["card", "from", "tell", "equal", "least", "among", "same"]
def cwS : List Str := ["tell", "equal", "least", "among", "same"]
def ltS : Str := "abcdefghijklmnopqrstuvwxyz"
/-- a name -/
def isNm (w : Str) : Bool := !decide (w ∈ kwS) && (decide (1 ≤ w.length) && decide (w.length ≤ 8)) && w.cps.toList.all fun c => decide (c ∈ ltS.cps.toList)
theorem isNm_len {w : Str} (h : isNm w = true) : 1 ≤ w.length ∧ w.length ≤ 8 := by
  unfold isNm at h
  rw [Bool.and_eq_true, Bool.and_eq_true, Bool.and_eq_true] at h
  exact ⟨of_decide_eq_true h.1.2.1, of_decide_eq_true h.1.2.2⟩
def nmO (o : Option Str) : Bool := match o with
  | some w => isNm w
  | none => false
def optS (o : Option Str) : Dat := match o with
  | some w => .str w
  | none => .non
section
variable {P : Program} {w : World} {K : PySem.W.Frag} {mg : Str → Option Value} {base : Heap} {ca : Nat → Addr} {gKW gCW : Addr}
def aspIsName : ASp := fun ds P => ∃ o : Option Str, ds = [optS o] ∧ (∀ w, o = some w → w.length ≤ 1000) ∧ P (.bl (nmO o))
theorem ok_is_name {f : Addr} {fd : FuncData} (F : Fun K "_is_name" "_is_name" s__is_name f fd) (B : Blt mg) (G : GlP mg) (G_KEY_WORDS : mg "KEY_WORDS" = some (.ref gKW)) (T_KEY_WORDS : GTup K gKW kwS) : FnOk P w K mg base CX0 1 f fd ["word"] (toSp K ca aspIsName) := by
  refine F.ok sc__is_name (fun vs H Q E h => sp_len (n := 1) (fun ds P a => by obtain ⟨_, rfl, _⟩ := a; rfl) h) (fun cdv A outer s H vs Q E hr h => ⟨_, (pss_cons (ps_if (PW.pt (pw_or (pt_cmpR op_isN (pv 0) pe_non (nomark _)) (pw_or (pt_cmpR (kin (K := K) rfl) (pv 0) (pe_glob (v := .ref _) rfl G_KEY_WORDS rfl) rfl) (pw_or1 (pt_not (pt_chain op_le op_le pe_int (pe_callB call_len_str (by rfl) B.len bt_len (pa_cons (pv 0) pa_nil)) (pe_gint G.LONGEST_NAME))))))) (pss_one (ps_ret pe_bl)) pss_nil)
      (pss_one (ps_ret (pe_callB (kall (K := K) rfl rfl) (by rfl) B.all bt_all (pa_cons (pe_lc (own := [("letter", 1)]) (g := gName 1) (tt := tYes) rfl sc__is_name.nd (pi_str (pv 0)) (blkOk_by (N := ["word", "letter"]) (sc := defScope s__is_name) (by decide +kernel))
        (fun _ _ _ _ _ => (pg_name (i := 1) sc__is_name.nd rfl (.inl rfl))) (fun _ _ _ _ _ => pts_nil)
        (fun _ _ _ _ _ => (pe_cmpR op_in_sign (pv 1) (pe_gstr G.LETTERS) rfl))) pa_nil))))),
    fn_run h (fun po => (s_seq (s_if (fun _ => (a_or (a_test (a_op pst_rv rok_isN a_var a_non)) (a_or (a_test (a_inG T_KEY_WORDS a_var)) (a_not (a_test (a_chain rok_B0 rok_B0 a_int (a_b1 u_lenS a_var) a_int)))))) (s_ret fun _ => a_bl) s_next)
      (s_ret fun _ => (a_b1 u_all (a_pk (a_fz (a_lc (vs := [1]) (i_sgn a_var) (g_name (by decide)) a_yes (a_op pst_rv rok_sign a_var a_str)))))))) (fun ds P a => by obtain ⟨_, rfl, _⟩ := a; exact Nat.le_of_ble_eq_true rfl) ?_⟩)
  rintro ds P ⟨o, rfl, hl, hp⟩
  refine seqG fun N hN => ?_
  cases o with
  | none =>
    unfold optS
    walk_at "dw"
    exact hp
  | some x =>
    unfold optS
    walk_at "dw"
    have l1 := hl x rfl
    unfold nmO isNm at hp
    dsimp only at hp
    refine twoD (fun e => ?_) (fun e => ?_)
    · rw [decide_eq_true e] at hp
      exact hp
    rw [decide_eq_false e] at hp
    refine ⟨by omega, ?_⟩
    refine twoD (fun e1 => ?_) (fun e1 => ?_)
    · refine twoN (fun e2 => ?_) (fun e2 => ?_)
      · rw [decide_eq_false (show ¬ x.length ≤ 8 by omega), Bool.and_false] at hp
        exact hp
      · rw [decide_eq_true (show 1 ≤ x.length by omega), decide_eq_true (show x.length ≤ 8 by omega)] at hp
        subst hN
        walk_at "dw"
        have ls : (signs x).length ≤ 1000 := by
          unfold signs
          rw [List.length_map, Array.length_toList]
          exact l1
        refine ⟨by rw [List.length_map]; omega, ?_⟩
        refine lcA_mapL (g := fun c : Str => Dat.bl (decide ((c.cps.toList.head?.getD 0) ∈ ltS.cps.toList))) (fun c hc Q hQ => ?_) ?_
        · obtain ⟨k, _, rfl⟩ := List.mem_map.mp hc
          walk_at "dw"
          exact hQ
        refine ⟨(signs x).map fun c => decide ((c.cps.toList.head?.getD 0) ∈ ltS.cps.toList), by rw [List.map_map]; rfl, ?_⟩
        have e : ((signs x).map fun c => decide ((c.cps.toList.head?.getD 0) ∈ ltS.cps.toList)).all id = x.cps.toList.all fun c => decide (c ∈ ltS.cps.toList) := by
          unfold signs
          rw [List.map_map, List.all_map]
          rfl
        rw [e]
        exact hp
    · rw [decide_eq_false (show ¬ 1 ≤ x.length by omega)] at hp
      exact hp
/-- a reader of these words, at this one -/
def RdAt (M : Sto) (r : Addr) (ws : List Str) (n : Nat) : Prop := M r = some (.obj 15 [.lst (ws.map .str), .int n])
def bspRdI : BSp := fun ds M X P => ∃ (x : Addr) (t : Str), ds = [.cell x, .str t] ∧ M x = some (.obj 15 []) ∧ t.length ≤ 100000 ∧ P .non (M.put x (some (.obj 15 [.lst ((Txt.split t " ").map .str), .int 0])))
theorem ok_rd_init {f : Addr} {fd : FuncData} (F : Fun K "__init__" "Reader.__init__" s_Reader___init__ f fd) (T15 : RdT K (ca 15)) (B : Blt mg) : FnOk P w K mg base (L2.CX P w) 1 f fd ["self", "text"] (toSpI2 K ca 15 bspRdI) := by
  refine F.okX sc_Reader___init__ (fun vs H Q E h => sp_lenI2 (n := 2) (fun ds M X P a => by obtain ⟨_, _, rfl, _⟩ := a; rfl) h) (fun cdv A outer s H vs Q E hr h => ⟨_, (pss_cons (ps_fld (pv 0) (pe_split (pv 1) pe_str) rfl)
      (pss_one (ps_fld (pv 0) pe_int rfl))),
    fn_runI2 h (fun po => (z_seq (z_setF (c := 15) (i := 0) T15.cl T15.n_words rfl (by decide) (by decide) (fun _ => (b_up fun _ => a_var)) (fun _ => (b_up fun _ => (a_fz (a_split a_var a_str)))))
      (z_setF (c := 15) (i := 1) T15.cl T15.n_at rfl (by decide) (by decide) (fun _ => (b_up fun _ => a_var)) (fun _ => (b_up fun _ => a_int))))) (fun ds M X P a => by obtain ⟨_, _, rfl, _⟩ := a; exact Nat.le_of_ble_eq_true rfl) ?_⟩)
  rintro ds M X P ⟨x, t, rfl, hM, lt, hp⟩
  refine zseqG fun N hN => ?_
  walk_at "wq"
  refine ⟨rfl, Nat.le_trans (show t.length + 2 ≤ 1000000 by omega) (by rw [sizeLine_eq]; decide), ?_⟩
  rw [hM]
  refine ⟨rfl, Nat.le_refl _, ?_⟩
  subst hN
  walk_at "wq"
  refine ⟨Nat.le_refl _, ?_⟩
  rw [Sto.pp]
  exact hp
theorem RdAt.vw {M : Sto} {r : Addr} {ws : List Str} {n : Nat} (h : RdAt M r ws n) : vwD 3 M (.cell r) = .obj 15 [.lst (ws.map .str), .int n] := by
  rw [vw_obj h rfl]
  show Dat.obj 15 [vwD 2 M (.lst _), vwD 2 M (.int _)] = _
  rw [vw_l, vw_i]
def bspAhead : BSp := fun ds M X P => ∃ (r : Addr) (ws : List Str) (n : Nat), ds = [.cell r] ∧ RdAt M r ws n ∧ ws.length ≤ 1000 ∧ P (optS ws[n]?) M
theorem ok_ahead {f : Addr} {fd : FuncData} (F : Fun K "ahead" "Reader.ahead" s_Reader_ahead f fd) (T15 : RdT K (ca 15)) (B : Blt mg) : FnOk P w K mg base CX0 1 f fd ["self"] (toSp2 K ca bspAhead) := by
  refine F.ok sc_Reader_ahead (fun vs H Q E h => sp_len2 (n := 1) (fun ds M X P a => by obtain ⟨_, _, _, rfl, _⟩ := a; rfl) h) (fun cdv A outer s H vs Q E hr h => ⟨_, (pss_one (ps_ret (pe_ifExp (pt_cmpR op_lt (kfld (K := K) rfl (pv 0)) (pe_callB (klen (K := K) rfl) (by rfl) B.len bt_len (pa_cons (kfld (K := K) rfl (pv 0)) pa_nil)) (nomark _)) (pe_ix (kixs (K := K) rfl) (kfld (K := K) rfl (pv 0)) (kfld (K := K) rfl (pv 0)) (fun _ _ => rfl)) pe_non))),
    fn_run2 h (fun po => (z_ret fun _ => (b_upV 3 fun _ => (a_if (a_test (a_op pst_rv rok_B0 (a_fld T15.cl T15.n_at (c := 15) (i := 1) rfl a_var) (a_b1 u_len (a_pk (a_fld T15.cl T15.n_words (c := 15) (i := 0) rfl a_var))))) (a_op pst_pk rok_ix (a_pk (a_fld T15.cl T15.n_words (c := 15) (i := 0) rfl a_var)) (a_fld T15.cl T15.n_at (c := 15) (i := 1) rfl a_var)) a_non)))) (fun ds M X P a => by obtain ⟨_, _, _, rfl, _⟩ := a; exact Nat.le_of_ble_eq_true rfl) ?_⟩)
  rintro ds M X P ⟨r, ws, n, rfl, hM, lw, hp⟩
  walk_at "wq"
  rw [hM.vw]
  walk_at "wq"
  rw [List.length_map]
  refine twoD (fun e => ?_) (fun e => ?_)
  · have e2 := List.getElem?_eq_getElem (l := ws) (i := n) (by omega)
    refine oa_at rfl e2 ?_
    rw [e2] at hp
    exact ⟨rfl, hp⟩
  · rw [List.getElem?_eq_none (by omega)] at hp
    exact hp
end
abbrev s__values_of : Stmt := top 23
theorem sc__values_of : FnScope ["cards", "kinds", "fields", "kind", "name", "_", "field", "many"] ["cards", "kinds"] (defScope s__values_of) := ⟨rfl, rfl, rfl, by decide +kernel, rfl, by decide +kernel, by decide +kernel⟩
abbrev s__sayable : Stmt := top 25
theorem sc__sayable : FnScope ["word", "values", "value"] ["word", "values"] (defScope s__sayable) := ⟨rfl, rfl, rfl, by decide +kernel, rfl, by decide +kernel, by decide +kernel⟩
abbrev s__written : Stmt := top 29
theorem sc__written : FnScope ["low", "many", "number"] ["low", "many"] (defScope s__written) := ⟨rfl, rfl, rfl, by decide +kernel, rfl, by decide +kernel, by decide +kernel⟩
abbrev s__read_value : Stmt := top 26
theorem sc__read_value : FnScope ["reader", "values", "card", "of_card", "field", "value"] ["reader", "values"] (defScope s__read_value) := ⟨rfl, rfl, rfl, by decide +kernel, rfl, by decide +kernel, by decide +kernel⟩
abbrev s__read_number : Stmt := top 27
theorem sc__read_number : FnScope ["reader", "many"] ["reader", "many"] (defScope s__read_number) := ⟨rfl, rfl, rfl, by decide +kernel, rfl, by decide +kernel, by decide +kernel⟩
theorem lcA_mapG {α : Type} {f : α → Dat} {el : Dat → (Option Dat → Prop) → Prop} {P : List Dat → Prop} (g : α → Dat) : ∀ {xs : List α} {acc : List Dat}, (∀ x ∈ xs, ∀ Q : Option Dat → Prop, Q (some (g x)) → el (f x) Q) → P (acc ++ xs.map g) → lcA el P (xs.map f) acc
  | [], acc, _, p => by
    rw [List.map_nil, List.append_nil] at p
    exact p
  | x :: xs, acc, h, p => by
    rw [List.map_cons]
    refine h x List.mem_cons_self _ ?_
    refine lcA_mapG g (fun y hy => h y (List.mem_cons_of_mem _ hy)) ?_
    rw [List.append_assoc]
    exact p
theorem lcO_map {α : Type} {f : α → Dat} {o : Dat → List Dat → (List Dat → Prop) → Prop} {P : List Dat → Prop} (g : α → List Dat) : ∀ {xs : List α} {acc : List Dat}, (∀ x ∈ xs, ∀ (acc : List Dat) (K : List Dat → Prop), K (acc ++ g x) → o (f x) acc K) → P (acc ++ xs.flatMap g) → lcO o P (xs.map f) acc
  | [], acc, _, p => by
    rw [List.flatMap_nil, List.append_nil] at p
    exact p
  | x :: xs, acc, h, p => by
    rw [List.map_cons]
    refine h x List.mem_cons_self acc _ ?_
    refine lcO_map g (fun y hy => h y (List.mem_cons_of_mem _ hy)) ?_
    rw [List.append_assoc]
    rw [List.flatMap_cons] at p
    exact p
abbrev Kd := Str × List Fld
def kdP (k : Kd) : Dat := kdO k.1 k.2
def kyD : Key → Dat
  | .inl i => .int i
  | .inr s => .str s
theorem ksQ_ky {k : Key} {P : Key → Prop} (h : P k) : ksQ (kyD k) P := by
  cases k <;> exact h
def mkD {α : Type} (kf : α → Key) (g : α → Dat) (acc : List (Key × Dat)) (xs : List α) : List (Key × Dat) := xs.foldl (fun acc x => putD acc (kf x) (g x)) acc
theorem lcD_map {α : Type} {f : α → Dat} {el : Dat → (Option (Dat × Dat) → Prop) → Prop} {P : List (Key × Dat) → Prop} (kf : α → Key) (g : α → Dat) : ∀ {xs : List α} {acc : List (Key × Dat)}, (∀ x ∈ xs, ∀ Q : Option (Dat × Dat) → Prop, Q (some (kyD (kf x), g x)) → el (f x) Q) → P (mkD kf g acc xs) → lcD el P (xs.map f) acc
  | [], _, _, p => p
  | x :: xs, acc, h, p => by
    rw [List.map_cons]
    refine h x List.mem_cons_self _ ?_
    exact ksQ_ky (lcD_map kf g (fun y hy => h y (List.mem_cons_of_mem _ hy)) p)
theorem dget_mk {α : Type} (kf : α → Key) (g : α → Dat) (j : Key) : ∀ (xs : List α) (acc : List (Key × Dat)), dgetD (mkD kf g acc xs) j = xs.foldl (fun a x => if kf x = j then some (g x) else a) (dgetD acc j)
  | [], _ => rfl
  | x :: xs, acc => by
    show dgetD (mkD kf g (putD acc (kf x) (g x)) xs) j = _
    rw [dget_mk kf g j xs, dgetD_put]
    rfl
/-- the fields of the last kind of a name -/
def lkK (nm : Str) (ks : List Kd) : Option (List Fld) := ks.foldl (fun a k => if k.1 = nm then some k.2 else a) none
theorem dget_lk (nm : Str) (ks : List Kd) : dgetD (mkD (fun k : Kd => .inr k.1) (fun k => .tup (k.2.map fmD)) [] ks) (.inr nm) = (lkK nm ks).map fun fs => .tup (fs.map fmD) := by
  rw [dget_mk]
  have gen : ∀ (ks : List Kd) (a : Option (List Fld)), ks.foldl (fun a k => if (Sum.inr k.1 : Key) = .inr nm then some (Dat.tup (k.2.map fmD)) else a) (a.map fun fs => Dat.tup (fs.map fmD)) = (ks.foldl (fun a k => if k.1 = nm then some k.2 else a) a).map fun fs => Dat.tup (fs.map fmD) := fun ks => by
    induction ks with
    | nil => exact fun _ => rfl
    | cons k ks ih =>
      intro a
      rw [List.foldl_cons, List.foldl_cons, ← ih]
      by_cases e : k.1 = nm
      · rw [if_pos (by rw [e]), if_pos e]
        rfl
      · rw [if_neg (by rw [Sum.inr.injEq]; exact e), if_neg e]
  exact gen ks none
structure Cd where
  nm : Str
  kn : Str
  is : List Str
def cdD (c : Cd) : Dat := .tup [.str c.nm, .str c.kn, .tup (c.is.map .str)]
def CdOk (c : Cd) : Prop := PyData.strOk c.nm = true ∧ PyData.strOk c.kn = true ∧ ∀ s ∈ c.is, PyData.strOk s = true
/-- a value: card, field, how many -/
structure Vl where
  cn : Str
  fn : Str
  sz : Int
  deriving DecidableEq
def vlD (v : Vl) : Dat := .tup [.str v.cn, .str v.fn, .int v.sz]
def valsC (ks : List Kd) (c : Cd) : List Vl := ((lkK c.kn ks).getD []).map fun f => ⟨c.nm, f.1, f.2⟩
def valsO (ks : List Kd) (cs : List Cd) : List Vl := cs.flatMap (valsC ks)
section
variable {P : Program} {w : World} {K : PySem.W.Frag} {mg : Str → Option Value} {base : Heap} {ca : Nat → Addr} {gKW gCW : Addr}
def bspValsOf : BSp := fun ds M X P => ∃ (a : Addr) (cs : List Cd) (ks : List Kd), ds = [.cell a, .lst (ks.map kdP)] ∧ M a = some (.lst (cs.map cdD)) ∧ (cs.length ≤ 10 ∧ ks.length ≤ 100 ∧ ∀ c ∈ cs, ∃ fs, lkK c.kn ks = some fs ∧ fs.length ≤ 100) ∧ P (.lst ((valsO ks cs).map vlD)) M
theorem ok_values_of {f : Addr} {fd : FuncData} (F : Fun K "_values_of" "_values_of" s__values_of f fd) (T3 : KdT K (ca 3)) (B : Blt mg) : FnOk P w K mg base CX0 1 f fd ["cards", "kinds"] (toSp2 K ca bspValsOf) := by
  refine F.ok sc__values_of (fun vs H Q E h => sp_len2 (n := 2) (fun ds M X P a => by obtain ⟨_, _, _, rfl, _⟩ := a; rfl) h) (fun cdv A outer s H vs Q E hr h => ⟨_, (pss_cons (ps_set (i := 2) sc__values_of.nd rfl (.inr rfl) (pe_dc (own := [("kind", 3)]) (g := gName 3) (tt := tYes) rfl sc__values_of.nd (kpil (K := K) rfl (pv 1)) (blkOk_by (N := ["cards", "kinds", "fields", "kind", "name", "_", "field", "many"]) (sc := defScope s__values_of) (by decide +kernel))
        (fun _ _ _ _ _ => (pg_name (i := 3) sc__values_of.nd rfl (.inl rfl))) (fun _ _ _ _ _ => pts_nil)
        (fun _ _ _ _ _ => (kfld (K := K) rfl (pv 3)))
        (fun _ _ _ _ _ => (kfld (K := K) rfl (pv 3)))))
      (pss_one (ps_ret (pe_lc2 (own := [("name", 4), ("kind", 3), ("_", 5), ("field", 6), ("many", 7)]) (vs1 := [6, 7]) (tt := tYes) (tt1 := tYes) rfl sc__values_of.nd (kpil (K := K) rfl (pv 0)) (blkOk_by (N := ["cards", "kinds", "fields", "kind", "name", "_", "field", "many"]) (sc := defScope s__values_of) (by decide +kernel)) (by decide)
        (fun _ _ _ _ _ => (kgtup (K := K) (n := 3) rfl rfl (pgs_cons (pg_name (i := 4) sc__values_of.nd rfl (.inl rfl)) (pgs_cons (pg_name (i := 3) sc__values_of.nd rfl (.inl rfl)) (pgs_cons (pg_name (i := 5) sc__values_of.nd rfl (.inl rfl)) pgs_nil))))) (fun _ _ _ _ _ => pts_nil)
        (fun _ _ _ _ _ => (kpit (K := K) rfl (pe_dget (hu_of hr) (pv 2) (pv 3) (fun _ _ => rfl)))) (fun _ _ _ _ _ => (kgtup (K := K) (n := 2) rfl rfl (pgs_cons (pg_name (i := 6) sc__values_of.nd rfl (.inl rfl)) (pgs_cons (pg_name (i := 7) sc__values_of.nd rfl (.inl rfl)) pgs_nil)))) (fun _ _ _ _ _ => pts_nil)
        (fun _ _ _ _ _ => (pe_tupF (pa_cons (pv 4) (pa_cons (pv 6) (pa_cons (pv 7) pa_nil))))))))),
    fn_run2 h (fun po => (z_seq (z_set fun _ => (b_up fun _ => (a_dc (vs := [3]) (i_list a_var) (g_name (by decide)) a_yes (a_fld T3.cl T3.n_name (c := 3) (i := 0) rfl a_var) (a_fld T3.cl T3.n_fields (c := 3) (i := 1) rfl a_var))))
      (z_ret fun _ => (b_fz (b_upVF 3 fun _ => (a_lc2 (vs := [4, 3, 5, 6, 7]) (vs1 := [6, 7]) (i_list a_var) (fun _ => (g_tup (g_cons (g_name (by decide)) (g_cons (g_name (by decide)) (g_cons (g_name (by decide)) g_nil tot_name) tot_name) tot_name))) (fun _ => a_yes) (fun _ => (i_tup (a_dget a_var a_var))) (fun _ => (g_tup (g_cons (g_name (by decide)) (g_cons (g_name (by decide)) g_nil tot_name) tot_name))) (fun _ => a_yes) (fun _ => (a_tup (a_cons a_var (a_cons a_var (a_cons a_var a_nil))))))))))) (fun ds M X P a => by obtain ⟨_, _, _, rfl, _⟩ := a; exact Nat.le_of_ble_eq_true rfl) ?_⟩)
  rintro ds M X P ⟨a, cs, ks, rfl, hM, ⟨lc, lk, hk⟩, hp⟩
  refine zseqG fun N hN => ?_
  walk_at "wq"
  refine ⟨by rw [List.length_map]; omega, ?_⟩
  refine lcD_map (fun k : Kd => .inr k.1) (fun k => .tup (k.2.map fmD)) (fun k hk Q hQ => ?_) ?_
  · unfold kdP kdO
    walk_at "wq"
    exact hQ
  subst hN
  walk_at "wq"
  rw [vw_lst hM, show (cs.map cdD).map (vwD 2 M) = cs.map cdD from by rw [List.map_map]; rfl]
  walk_at "wq"
  refine ⟨by rw [List.length_map]; omega, ?_⟩
  refine lcO_map (g := fun c => (valsC ks c).map vlD) (fun c hc acc K hK => ?_) ?_
  · rw [show cdD c = .tup [.str c.nm, .str c.kn, .tup (c.is.map .str)] from rfl]
    walk_at "wq"
    obtain ⟨fs, e, l⟩ := hk c hc
    rw [dget_lk, e]
    walk_at "wq"
    refine ⟨by rw [List.length_map]; omega, ?_⟩
    refine lcA_mapG (g := fun f : Fld => vlD ⟨c.nm, f.1, f.2⟩) (fun f hf Q hQ => ?_) ?_
    · rw [show fmD f = .tup [.str f.1, .int f.2] from rfl]
      walk_at "wq"
      exact hQ
    · have e2 : (valsC ks c).map vlD = fs.map fun f : Fld => vlD ⟨c.nm, f.1, f.2⟩ := by
        unfold valsC
        rw [e, List.map_map]
        rfl
      rw [e2] at hK
      exact hK
  rw [List.nil_append, ← List.map_flatMap]
  exact ⟨ftAll_of fun x hx => (by obtain ⟨y, _, rfl⟩ := List.mem_map.mp hx; rfl), hp⟩
def sayV (wd : Str) (vs : List Vl) : List Vl := if wd = "tell" then vs else if wd = "same" then (if 1 < vs.length then vs else []) else vs.filter fun v => decide (0 < v.sz)
def aspSay : ASp := fun ds P => ∃ (wd : Str) (vs : List Vl), ds = [.str wd, .lst (vs.map vlD)] ∧ vs.length ≤ 1000 ∧ P (.lst ((sayV wd vs).map vlD))
theorem ok_sayable {f : Addr} {fd : FuncData} (F : Fun K "_sayable" "_sayable" s__sayable f fd) (B : Blt mg) : FnOk P w K mg base CX0 1 f fd ["word", "values"] (toSp K ca aspSay) := by
  refine F.ok sc__sayable (fun vs H Q E h => sp_len (n := 2) (fun ds P a => by obtain ⟨_, _, rfl, _⟩ := a; rfl) h) (fun cdv A outer s H vs Q E hr h => ⟨_, (pss_cons (ps_if (pt_cmpR op_eq (pv 0) pe_str (nomark _)) (pss_one (ps_ret (pv 1))) pss_nil)
      (pss_cons (ps_if (pt_cmpR op_eq (pv 0) pe_str (nomark _)) (pss_one (ps_ret (pe_ifExp (pt_cmpR op_gt (pe_callB (klen (K := K) rfl) (by rfl) B.len bt_len (pa_cons (pv 1) pa_nil)) pe_int (nomark _)) (pv 1) (pe_lst pa_nil)))) pss_nil)
      (pss_one (ps_ret (pe_lc (own := [("value", 2)]) (g := gName 2) rfl sc__sayable.nd (kpil (K := K) rfl (pv 1)) (blkOk_by (N := ["word", "values", "value"]) (sc := defScope s__sayable) (by decide +kernel))
        (fun _ _ _ _ _ => (pg_name (i := 2) sc__sayable.nd rfl (.inl rfl))) (fun _ _ _ _ _ => pts_one (pt_cmpR op_gt (pe_ix (kixs (K := K) rfl) (pv 2) pe_int (fun _ _ => rfl)) pe_int (nomark _)))
        (fun _ _ _ _ _ => (pv 2))))))),
    fn_run h (fun po => (s_seq (s_if (fun _ => (a_test (a_op pst_rv rok_eq a_var a_str))) (s_ret fun _ => a_var) s_next)
      (s_seq (s_if (fun _ => (a_test (a_op pst_rv rok_eq a_var a_str))) (s_ret fun _ => (a_if (a_test (a_op pst_rv rok_B0 (a_b1 u_len (a_pk a_var)) a_int)) a_var (a_fz (a_lst a_nil)))) s_next)
      (s_ret fun _ => (a_fz (a_lc (vs := [2]) (i_list a_var) (g_name (by decide)) (a_test (a_op pst_rv rok_B0 (a_op pst_pk rok_ix (a_pk a_var) a_int) a_int)) a_var)))))) (fun ds P a => by obtain ⟨_, _, rfl, _⟩ := a; exact Nat.le_of_ble_eq_true rfl) ?_⟩)
  rintro ds P ⟨wd, vs, rfl, lv, hp⟩
  refine seqG fun N hN => ?_
  walk_at "dw"
  unfold sayV at hp
  refine twoD (fun e => ?_) (fun e => ?_)
  · rw [if_pos e] at hp
    exact hp
  rw [if_neg e] at hp
  subst hN
  refine seqG fun N hN => ?_
  walk_at "dw"
  refine twoD (fun e => ?_) (fun e => ?_)
  · rw [if_pos e] at hp
    rw [List.length_map]
    refine twoD (fun e1 => ?_) (fun e1 => ?_)
    · rw [if_pos (by omega)] at hp
      exact hp
    · rw [if_neg (by omega)] at hp
      exact hp
  rw [if_neg e] at hp
  subst hN
  walk_at "dw"
  refine ⟨by rw [List.length_map]; omega, ?_⟩
  refine lcA_filL (g := vlD) (fun v => decide (0 < v.sz)) (fun v hv Q q1 q2 => ?_) hp
  rw [show vlD v = .tup [.str v.cn, .str v.fn, .int v.sz] from rfl] at q1 ⊢
  walk_at "dw"
  exact twoD (fun e => q1 (decide_eq_true e)) (fun e => q2 (decide_eq_false e))
/-- the numbers as they are written -/
def wrt (lo hi : Int) : List Str := (List.range (hi - lo).toNat).map fun (i : Nat) => toString (lo + (i : Int))
def aspWritten : ASp := fun ds P => ∃ (lo many : Int), ds = [.int lo, .int many] ∧ (0 ≤ lo ∧ lo ≤ 1000 ∧ 0 ≤ many ∧ many ≤ 100) ∧ P (.lst ((wrt lo many).map .str))
theorem ok_written {f : Addr} {fd : FuncData} (F : Fun K "_written" "_written" s__written f fd) (B : Blt mg) (G : GlP mg) : FnOk P w K mg base CX0 1 f fd ["low", "many"] (toSp K ca aspWritten) := by
  refine F.ok sc__written (fun vs H Q E h => sp_len (n := 2) (fun ds P a => by obtain ⟨_, _, rfl, _⟩ := a; rfl) h) (fun cdv A outer s H vs Q E hr h => ⟨_, (pss_one (ps_ret (pe_lc (own := [("number", 2)]) (g := gName 2) (tt := tYes) rfl sc__written.nd (pi_range2 rfl B.range (pa_cons (pv 0) (pa_cons (pe_callB (call_min2 rfl) (by rfl) B.min bt_min (pa_cons (pv 1) (pa_cons (pe_gint G.FIRST_TOO_LONG) pa_nil))) pa_nil))) (blkOk_by (N := ["low", "many", "number"]) (sc := defScope s__written) (by decide +kernel))
        (fun _ _ _ _ _ => (pg_name (i := 2) sc__written.nd rfl (.inl rfl))) (fun _ _ _ _ _ => pts_nil)
        (fun _ _ _ _ _ => (pe_callTy call_str_int (by rfl) B.str bt_str (pa_cons (pv 2) pa_nil)))))),
    fn_run h (fun po => (s_ret fun _ => (a_fz (a_lc (vs := [2]) (i_ran2 (a_cons a_var (a_cons (a_b2 rok_min2 a_var a_int) a_nil))) (g_name (by decide)) a_yes (a_b1 u_str a_var))))) (fun ds P a => by obtain ⟨_, _, rfl, _⟩ := a; exact Nat.le_of_ble_eq_true rfl) ?_⟩)
  rintro ds P ⟨lo, many, rfl, ⟨l0, l1, m0, m1⟩, hp⟩
  walk_at "dw"
  have e : (if 100 < many then 100 else many) = many := if_neg (by omega)
  rw [e]
  refine ⟨⟨by omega, by omega, by omega, by omega⟩, by rw [List.length_map, List.length_range]; omega, ?_⟩
  unfold wrt at hp
  rw [List.map_map] at hp
  refine lcA_mapL (g := fun (i : Nat) => Dat.str (toString (lo + (i : Int)))) (fun i hi Q hQ => ?_) hp
  have := List.mem_range.mp hi
  walk_at "dw"
  exact ⟨by omega, hQ⟩
end
abbrev s__read_numbers : Stmt := top 28
theorem sc__read_numbers : FnScope ["reader", "many", "numbers"] ["reader", "many"] (defScope s__read_numbers) := ⟨rfl, rfl, rfl, by decide +kernel, rfl, by decide +kernel, by decide +kernel⟩
abbrev s__read_condition : Stmt := top 24
theorem sc__read_condition : FnScope ["reader", "values", "word", "sayable", "value", "card", "field", "many", "other_card", "other_field", "_", "begin", "other"] ["reader", "values"] (defScope s__read_condition) := ⟨rfl, rfl, rfl, by decide +kernel, rfl, by decide +kernel, by decide +kernel⟩
inductive Cnd where
  | tell (c f : Str)
  | equal (c f : Str) (n : Int)
  | least (c f : Str) (n : Int)
  | among (c f : Str) (ns : List Int)
  | same (c f c2 f2 : Str)
def cndD : Cnd → Dat
  | .tell c f => .tup [.str "tell", .str c, .str f]
  | .equal c f n => .tup [.str "equal", .str c, .str f, .int n]
  | .least c f n => .tup [.str "least", .str c, .str f, .int n]
  | .among c f ns => .tup [.str "among", .str c, .str f, .tup (ns.map .int)]
  | .same c f c2 f2 => .tup [.str "same", .str c, .str f, .str c2, .str f2]
theorem txt_all : (List.range 100).all (fun k => PySem.intText? (toString ((k : Nat) : Int)) == some ((k : Nat) : Int) && decide ((toString ((k : Nat) : Int) : Str).length ≤ 640) && decide (PySem.Str.length (toString ((k : Nat) : Int)) ≥ 1)) = true := by decide +kernel
theorem txt_at {k : Int} (h0 : 0 ≤ k) (h1 : k < 100) : PySem.intText? (toString k) = some k ∧ (toString k : Str).length ≤ 640 := by
  obtain ⟨n, rfl⟩ := Int.eq_ofNat_of_zero_le h0
  have := List.all_eq_true.mp txt_all n (List.mem_range.mpr (by omega))
  rw [Bool.and_eq_true, Bool.and_eq_true] at this
  exact ⟨eq_of_beq this.1.1, of_decide_eq_true this.1.2⟩
theorem txt_inj {i j : Int} (i0 : 0 ≤ i) (i1 : i < 100) (j0 : 0 ≤ j) (j1 : j < 100) (e : (toString i : Str) = (toString j : Str)) : i = j := by
  have a := (txt_at i0 i1).1
  rw [e, (txt_at j0 j1).1] at a
  exact (Option.some.inj a).symm
theorem wrt_mem {lo hi k : Int} (l0 : 0 ≤ lo) (hh : hi ≤ 100) (k0 : 0 ≤ k) (k1 : k < 100) : (toString k : Str) ∈ wrt lo hi ↔ lo ≤ k ∧ k < hi := by
  unfold wrt
  rw [List.mem_map]
  constructor
  · rintro ⟨i, hi, e⟩
    have := List.mem_range.mp hi
    have := txt_inj (i := lo + (i : Int)) (by omega) (by omega) k0 k1 e
    omega
  · intro h
    exact ⟨(k - lo).toNat, List.mem_range.mpr (by omega), by rw [show lo + ((k - lo).toNat : Int) = k by omega]⟩
section
variable {P : Program} {w : World} {K : PySem.W.Frag} {mg : Str → Option Value} {base : Heap} {ca : Nat → Addr} {gKW gCW : Addr}
theorem wrt_sub {lo hi : Int} {x : Str} (h : 0 ≤ lo) (m : x ∈ wrt lo hi) : x ∈ wrt 0 hi := by
  unfold wrt at m ⊢
  obtain ⟨i, hi, rfl⟩ := List.mem_map.mp m
  have := List.mem_range.mp hi
  exact List.mem_map.mpr ⟨(lo + (i : Int)).toNat, List.mem_range.mpr (by omega), by rw [show (0 : Int) + ((lo + (i : Int)).toNat : Int) = lo + (i : Int) by omega]⟩
/-- only the reader has moved -/
def Moved (M M' : Sto) (r : Addr) : Prop := ∀ y, y ≠ r → M y ≠ none → M' y = M y
theorem Moved.put {M : Sto} {r : Addr} {c : Option Ce} : Moved M (M.put r c) r := fun y h _ => Sto.put_n h
theorem Moved.trans {M M1 M2 : Sto} {r : Addr} (h1 : Moved M M1 r) (h2 : Moved M1 M2 r) : Moved M M2 r := fun y n e => by
  have e1 := h1 y n e
  rw [h2 y n (by rw [e1]; exact e), e1]
end
def wdC : Cnd → Str
  | .tell _ _ => "tell"
  | .equal _ _ _ => "equal"
  | .least _ _ _ => "least"
  | .among _ _ _ => "among"
  | .same _ _ _ _ => "same"
def cnC : Cnd → Str × Str
  | .tell c f => (c, f)
  | .equal c f _ => (c, f)
  | .least c f _ => (c, f)
  | .among c f _ => (c, f)
  | .same c f _ _ => (c, f)
def rsC : Cnd → List Str
  | .tell _ _ => []
  | .equal _ _ n => [toString n]
  | .least _ _ n => [toString n]
  | .among _ _ ns => ns.map fun n => (toString n : Str)
  | .same _ _ c f => [c, f]
theorem wdC_cw : ∀ x : Cnd, wdC x ∈ cwS
  | .tell _ _ => (by decide : ("tell" : Str) ∈ cwS)
  | .equal _ _ _ => (by decide : ("equal" : Str) ∈ cwS)
  | .least _ _ _ => (by decide : ("least" : Str) ∈ cwS)
  | .among _ _ _ => (by decide : ("among" : Str) ∈ cwS)
  | .same _ _ _ _ => (by decide : ("same" : Str) ∈ cwS)
/-- the words of a condition -/
def cndW (x : Cnd) : List Str := wdC x :: (cnC x).1 :: (cnC x).2 :: rsC x
/-- it may be said of these values -/
inductive CnFit (vs : List Vl) : Cnd → Prop where
  | tell (v : Vl) (h : v ∈ vs) : CnFit vs (.tell v.cn v.fn)
  | equal (v : Vl) (h : v ∈ vs) (n : Int) (n0 : 0 ≤ n) (n1 : n < v.sz) : CnFit vs (.equal v.cn v.fn n)
  | least (v : Vl) (h : v ∈ vs) (n : Int) (n0 : 0 ≤ n) (n1 : n < v.sz) : CnFit vs (.least v.cn v.fn n)
  | among (v : Vl) (h : v ∈ vs) (ns : List Int) (ne : ns ≠ []) (rg : ∀ n ∈ ns, 0 ≤ n ∧ n < v.sz) (pw : ns.Pairwise (· < ·)) : CnFit vs (.among v.cn v.fn ns)
  | same (v u : Vl) (h : v ∈ vs) (hu : u ∈ vs) (ne : u ≠ v) : CnFit vs (.same v.cn v.fn u.cn u.fn)
structure VsOk (vs : List Vl) : Prop where
  ln : vs.length ≤ 100
  un : ∀ u ∈ vs, ∀ v ∈ vs, u.cn = v.cn → u.fn = v.fn → u = v
  sz : ∀ v ∈ vs, 0 ≤ v.sz ∧ v.sz ≤ 100
  so : ∀ v ∈ vs, PyData.strOk v.cn = true ∧ PyData.strOk v.fn = true
theorem vlD_inj {u v : Vl} (h : vlD u = vlD v) : u = v := by
  obtain ⟨a, b, c⟩ := u
  obtain ⟨d, e, f⟩ := v
  unfold vlD at h
  rw [Dat.tup.injEq, List.cons.injEq, List.cons.injEq, List.cons.injEq, Dat.str.injEq, Dat.str.injEq, Dat.int.injEq] at h
  obtain ⟨h1, h2, h3, _⟩ := h
  have h1 : a = d := h1
  have h2 : b = e := h2
  have h3 : c = f := h3
  rw [h1, h2, h3]
theorem okE_vl {v : Vl} (h : PyData.strOk v.cn = true ∧ PyData.strOk v.fn = true) : okE 64 (vlD v) := (okE_tup (n := 0) (fun d hd => by
  rcases List.mem_cons.mp hd with rfl | hd
  · exact okE_str h.1 _
  · exact okE_two (okE_str h.2 _) (okE_int _ _) d hd)).up (Nat.le_of_ble_eq_true rfl)
def bMake3 (c : Nat) (bsp : BSp) (ba : BFr) : BEx := fun env M X P => ba env M X fun ds M' => ∀ x, M' x = none → bsp (.cell x :: ds) (M'.put x (some (.obj c []))) X0 fun d M2 => d = .non ∧ P (.cell x) M2
theorem b_make3 {K : PySem.W.Frag} {ca : Nat → Addr} {po : Option (Addr × Addr)} {H0 : Hp} {E : XS} {n c : Nat} {t : TA} {E' : XS} {ba : BFr} {bsp : BSp} (h : BArg ⟨K, ca, po⟩ H0 E n t ba) : BExp ⟨K, ca, po⟩ H0 E (tMakeS (ca c) (toSpI2 K ca c bsp) E' t) (bMake3 c bsp ba) :=
  ⟨fun σ env F H M Q P X cf q k => h.run σ env F H M _ _ X cf q fun ds F1 H1 vs M1 p1 x1 r1 _ => fun x dx hx hdx hne =>
    ⟨po, F1, H1, x, dx, vs, M1, ds, _, X0, rfl, rfl, hx, hdx, hne, x1.ok, r1, p1 x (x1.ok.new hx), .zero, fun d F' H' M' v p y r => by
      obtain ⟨rfl, p⟩ := p
      cases r
      exact ⟨rfl, k (.cell x) F' H' (.ref x) M' p (x1.trans y) (.cell x)⟩⟩⟩
local macro_rules | `(tactic| walk_at "dw1") => `(tactic| simp only [aInG, iG, iSgn, txQ_s, aSplit, aJoin, aLc2, elO, sExt, kStrB_i, kStrB_s, kLenS_s, aRng, iRngA, aLrng, List.take_succ_cons, List.take_zero, List.drop_succ_cons, List.drop_zero, ktQ_2, dTQ_d, dtQ_d, kTGet, aTIn, gStA, kIsLT_l, kIsLT_t, kIsLT_i, kIsLT_s, aSz, aDc, elD, aDIn, aStar, bk_ks, Option.map_some, Option.map_none, Option.isSome_some, Option.isSome_none, kMin2_i, aDget2, bk_dd, bk_st, kDget_s, dg_c, dg_n, kIxS_i, ofS_inj, Sum.inr.injEq, reduceIte, kInt_bl, Option.getD_none, Option.getD_some, elA, sNext, sIf, sAsg, sSetO, sRet, sRetN, sDrop, sPar, sFz, sApp, sAug, sFor, oQ2_o, dQ_d, dQ2_d, dQ2_o, dAt_0, dAt_s, aVar, aPeek, aC, aFz, a2, a2F, a1, a1F, aCons, aNil, aTup, aTest_eq, aNot, aAnd, aOr, bQ_bl, aAndV, aOrV, aNotV, aIf, aChain, kI_i, kI0_i, kEq_i, kEq_s, kEq_b, kFld_o, oQ_some, aCall, aMeth, aMake, iSeq, lQ_lst, tQ_tup, sQ_lst, sQ_tup, iRan, gA, gTu, gNil_n, gCons_c, aLc, wipeA, kLen, kTupOf, kQ_t, kQ_l, iZipA, iEnA, aSlF, aSlT, aoN, aoS, aRevT, aRevL, kMax2_i, kCatS_s, kCatT_t, kCatL_l, kInt_i, kNeg_i, true_and, aYes, iCons, iNil, iDrop, kIsO_o, two_t, two_f, kIx_l, kIx_t, atI_0, atI_1, atI_2, atI_3, Bool.false_eq_true, if_false, if_true, kStr_i, kIsT_non, kIsT_bl, kIsT_int, kIsT_str, kIsT_lst, kIsT_tup, kIsN_non, kIsN_bl, kIsN_int, kIsN_str, kIsN_lst, kIsN_tup, kIsN_obj, kEq_nn, String.reduceEq, decide_true, decide_false, Bool.or_false, Bool.false_or, Bool.true_or, Bool.or_true, Bool.and_true, Bool.true_and, Bool.and_false, Bool.false_and, Bool.not_true, Bool.not_false, reduceCtorEq,
  List.map_cons, List.map_nil, List.cons_append, List.nil_append, List.length_cons, List.length_nil, Nat.reduceAdd, Nat.reduceSub, List.replicate_succ, List.replicate_zero, List.set_cons_zero, List.set_cons_succ, List.getElem?_cons_zero, List.getElem?_cons_succ])
local macro_rules | `(tactic| walk_at "dw") => `(tactic| first | walk_at "dw1" | skip)
local macro_rules | `(tactic| walk_at "wq1") => `(tactic| simp only [bMake3, zAugF, inQ_i, aInG, iG, iSgn, txQ_s, aSplit, aJoin, aLc2, elO, sExt, kStrB_i, kStrB_s, kLenS_s, aRng, iRngA, aLrng, List.take_succ_cons, List.take_zero, List.drop_succ_cons, List.drop_zero, ktQ_2, dTQ_d, dtQ_d, kTGet, aTIn, gStA, kIsLT_l, kIsLT_t, kIsLT_i, kIsLT_s, zTPut, bTNew, bMeth2, bPop, bRan, aSz, aDc, elD, aDIn, aStar, bk_ks, Option.map_some, Option.map_none, Option.isSome_some, Option.isSome_none, upV, upVF, upVT, vwS_d, vwS_u, vwS_o, vw_n, vw_b, vw_i, vw_s, vw_p, vw_l, vw_t, vw_o, vw_d, ftD_i, ftD_s, ftD_b, ftD_n, ftD_t, ftAll_n, ftAll_c, bDget, zPutD, bPn, bPc, bDisp, bMethX, bSeq, kMin2_i, aDget2, bk_dk, bk_ks, bk_dd, bk_st, kDget_s, dg_c, dg_n, kIxS_i, ofS_inj, Sum.inr.injEq, reduceIte, kInt_bl, Option.getD_none, Option.getD_some, zRaise, bCallX, bFldC, zSetF, bMake2, bFrzO, coQ_o, isC_c, upE, upF, upT, bFz, bCel, b2, b2F, b1, b1F, bNil, bCons, bTup, bTest, bNot, bAnd, bOr, bAndV, bOrV, bNotV, bIf, bCall, bCallF, bCall2, bFrz, elB, bLc, bYes, zNext, zIf, zAsg, zSetO, zRet, zRetN, zDrop, zPar, zApp, zFz, zAug, zFor, zAppC, zPutC, zPutO, dId, drf_l, drf_t, drf_i, drf_s, drf_b, drf_n, drf_c, drf_o, drc_l, ceQ_c, inQ_i, cQ_l, Sto.put_s, elA, sNext, sIf, sAsg, sSetO, sRet, sRetN, sDrop, sPar, sFz, sApp, sAug, sFor, oQ2_o, dQ_d, dQ2_d, dQ2_o, dAt_0, dAt_s, aVar, aPeek, aC, aFz, a2, a2F, a1, a1F, aCons, aNil, aTup, aTest_eq, aNot, aAnd, aOr, bQ_bl, aAndV, aOrV, aNotV, aIf, aChain, kI_i, kI0_i, kEq_i, kEq_s, kEq_b, kFld_o, oQ_some, aCall, aMeth, aMake, iSeq, lQ_lst, tQ_tup, sQ_lst, sQ_tup, iRan, gA, gTu, gNil_n, gCons_c, aLc, wipeA, kLen, kTupOf, kQ_t, kQ_l, iZipA, iEnA, aSlF, aSlT, aoN, aoS, aRevT, aRevL, kMax2_i, kCatS_s, kCatT_t, kCatL_l, kInt_i, kNeg_i, true_and, aYes, iCons, iNil, iDrop, kIsO_o, two_t, two_f, kIx_l, kIx_t, atI_0, atI_1, atI_2, atI_3, Bool.false_eq_true, if_false, if_true, kStr_i, kIsT_non, kIsT_bl, kIsT_int, kIsT_str, kIsT_lst, kIsT_tup, kIsN_non, kIsN_bl, kIsN_int, kIsN_str, kIsN_lst, kIsN_tup, kIsN_obj, kEq_nn, String.reduceEq, decide_true, decide_false, Bool.or_false, Bool.false_or, Bool.true_or, Bool.or_true, Bool.and_true, Bool.true_and, Bool.and_false, Bool.false_and, Bool.not_true, Bool.not_false, reduceCtorEq,   List.map_cons, List.map_nil, List.cons_append, List.nil_append, List.length_cons, List.length_nil, Nat.reduceAdd, Nat.reduceSub, List.replicate_succ, List.replicate_zero, List.set_cons_zero, List.set_cons_succ, List.getElem?_cons_zero, List.getElem?_cons_succ])
local macro_rules | `(tactic| walk_at "wq") => `(tactic| first | walk_at "wq1" | skip)
abbrev s_read_policy : Stmt := top 21
theorem sc_read_policy : FnScope ["text", "kinds", "reader", "cards", "taken", "values", "conditions", "name", "_"] ["text", "kinds"] (defScope s_read_policy) := ⟨rfl, rfl, rfl, by decide +kernel, rfl, by decide +kernel, by decide +kernel⟩
def aspPolI3 : ASpI := fun ds P => ∃ (cs : List Cd) (co : List Cnd), ds = [.lst (cs.map cdD), .lst (co.map cndD)] ∧ (cs.length ≤ 1000 ∧ co.length ≤ 1000) ∧ P [.tup (cs.map cdD), .tup (co.map cndD)]
abbrev s__read_card : Stmt := top 22
theorem sc__read_card : FnScope ["reader", "kinds", "taken", "name", "kind", "issuers", "listed"] ["reader", "kinds", "taken"] (defScope s__read_card) := ⟨rfl, rfl, rfl, by decide +kernel, rfl, by decide +kernel, by decide +kernel⟩
/-- the words of a card -/
def cardW (c : Cd) : List Str := "card" :: c.nm :: c.kn :: "from" :: c.is
structure CaFit (ks : List Kd) (tk : List Str) (c : Cd) : Prop where
  nm : isNm c.nm = true
  nt : c.nm ∉ tk
  kn : c.kn ∈ ks.map (·.1)
  ne : c.is ≠ []
  l3 : c.is.length ≤ 3
  al : ∀ x ∈ c.is, isNm x = true
  nd : c.is.Nodup
section
variable {P : Program} {w : World} {K : PySem.W.Frag} {mg : Str → Option Value} {base : Heap} {ca : Nat → Addr} {gKW gCW : Addr}
/-- the words of a policy -/
def polW (cs : List Cd) (co : List Cnd) : List Str := cs.flatMap cardW ++ co.flatMap cndW
def polC (cs : List Cd) (co : List Cnd) : Dat := .obj 8 [.tup (cs.map cdD), .tup (co.map cndD)]
structure PolFit (ks : List Kd) (cs : List Cd) (co : List Cnd) : Prop where
  lk : ks.length ≤ 100
  fl : ∀ k ∈ ks, k.2.length ≤ 30
  ne : cs ≠ []
  l3 : cs.length ≤ 3
  at_ : ∀ dn c td, cs = dn ++ c :: td → CaFit ks (dn.map (·.nm)) c
  vs : VsOk (valsO ks cs)
  l6 : co.length ≤ 6
  co : ∀ x ∈ co, CnFit (valsO ks cs) x
theorem cw_kw {y : Str} (h : y ∈ cwS) : y ∈ kwS ∧ y ≠ "card" := by
  have : cwS.all (fun y => decide (y ∈ kwS ∧ y ≠ "card")) = true := by decide +kernel
  exact of_decide_eq_true (List.all_eq_true.mp this y h)
end
abbrev s_Policy___init__ : Stmt := inClass (top 17) 0
theorem sc_Policy___init__ : FnScope ["self", "cards", "conditions", "name", "kind", "issuers", "condition"] ["self", "cards", "conditions"] (defScope s_Policy___init__) := ⟨rfl, rfl, rfl, by decide +kernel, rfl, by decide +kernel, by decide +kernel⟩
theorem sum_le_mul {α : Type} {f : α → Nat} {m : Nat} : ∀ {xs : List α}, (∀ x ∈ xs, f x ≤ m) → (xs.map f).sum ≤ xs.length * m
  | [], _ => Nat.zero_le _
  | x :: xs, h => by
    rw [List.map_cons, List.sum_cons, List.length_cons, Nat.succ_mul]
    have := h x List.mem_cons_self
    have := sum_le_mul (xs := xs) fun y hy => h y (List.mem_cons_of_mem _ hy)
    omega
/-- the words of a part of a condition -/
def partW : Dat → List Str
  | .int i => [toString i]
  | .str s => [s]
  | .tup xs => xs.map fun d => match d with
    | .int i => (toString i : Str)
    | _ => ""
  | _ => []
def cnP : Cnd → List Dat
  | .tell c f => [.str "tell", .str c, .str f]
  | .equal c f n => [.str "equal", .str c, .str f, .int n]
  | .least c f n => [.str "least", .str c, .str f, .int n]
  | .among c f ns => [.str "among", .str c, .str f, .tup (ns.map .int)]
  | .same c f c2 f2 => [.str "same", .str c, .str f, .str c2, .str f2]
theorem cnP_W (x : Cnd) : (cnP x).flatMap partW = cndW x := by
  cases x with
  | among c f ns =>
    show [("among" : Str)] ++ ([c] ++ ([f] ++ (((ns.map Dat.int).map fun d => match d with
      | .int i => (toString i : Str)
      | _ => ("" : Str)) ++ []))) = ("among" : Str) :: c :: f :: ns.map fun n => (toString n : Str)
    rw [List.map_map, List.append_nil]
    rfl
  | _ => rfl
inductive PartOk : Dat → Prop
  | int (i : Int) (h : i.natAbs < 1000000) : PartOk (.int i)
  | str (s : Str) : PartOk (.str s)
  | tup (ns : List Int) (l : ns.length ≤ 1000) (h : ∀ n ∈ ns, n.natAbs < 1000000) : PartOk (.tup (ns.map .int))
def CnSm : Cnd → Prop
  | .tell _ _ => True
  | .equal _ _ n => n.natAbs < 1000000
  | .least _ _ n => n.natAbs < 1000000
  | .among _ _ ns => ns.length ≤ 1000 ∧ ∀ n ∈ ns, n.natAbs < 1000000
  | .same _ _ _ _ => True
theorem cnP_ok {x : Cnd} (h : CnSm x) : ∀ d ∈ cnP x, PartOk d := by
  intro d hd
  cases x with
  | tell c f =>
    simp only [cnP, List.mem_cons, List.mem_nil_iff, or_false] at hd
    rcases hd with rfl | rfl | rfl <;> exact .str _
  | equal c f n =>
    simp only [cnP, List.mem_cons, List.mem_nil_iff, or_false] at hd
    rcases hd with rfl | rfl | rfl | rfl <;> first | exact .str _ | exact .int _ h
  | least c f n =>
    simp only [cnP, List.mem_cons, List.mem_nil_iff, or_false] at hd
    rcases hd with rfl | rfl | rfl | rfl <;> first | exact .str _ | exact .int _ h
  | among c f ns =>
    simp only [cnP, List.mem_cons, List.mem_nil_iff, or_false] at hd
    rcases hd with rfl | rfl | rfl | rfl <;> first | exact .str _ | exact .tup _ h.1 h.2
  | same c f c2 f2 =>
    simp only [cnP, List.mem_cons, List.mem_nil_iff, or_false] at hd
    rcases hd with rfl | rfl | rfl | rfl | rfl <;> exact .str _
section
variable {P : Program} {w : World} {K : PySem.W.Frag} {mg : Str → Option Value} {base : Heap} {ca : Nat → Addr} {gKW gCW : Addr}
abbrev s__kept : Stmt := top 18
theorem sc__kept : FnScope ["condition", "part"] ["condition"] (defScope s__kept) := ⟨rfl, rfl, rfl, by decide +kernel, rfl, by decide +kernel, by decide +kernel⟩
def aspKeptP : ASp := fun ds P => ∃ c : Cnd, ds = [cndD c] ∧ P (cndD c)
theorem ok_kept_p {f : Addr} {fd : FuncData} (F : Fun K "_kept" "_kept" s__kept f fd) (B : Blt mg) : FnOk P w K mg base CX0 1 f fd ["condition"] (toSp K ca aspKeptP) := by
  refine F.ok sc__kept (fun vs H Q E h => sp_len (n := 1) (fun ds P a => by obtain ⟨_, rfl, _⟩ := a; rfl) h) (fun cdv A outer s H vs Q E hr h => ⟨_, (pss_one (ps_ret (pe_callTy (ktupF (K := K) rfl) (by rfl) B.tuple bt_tuple (pa_cons (pe_lc (own := [("part", 1)]) (g := gName 1) (tt := tYes) rfl sc__kept.nd (kpit (K := K) rfl (pv 0)) (blkOk_by (N := ["condition", "part"]) (sc := defScope s__kept) (by decide +kernel))
        (fun _ _ _ _ _ => (pg_name (i := 1) sc__kept.nd rfl (.inl rfl))) (fun _ _ _ _ _ => pts_nil)
        (fun _ _ _ _ _ => (pe_ifExp (pt_val (pe_callB (kisiT (K := K) rfl) (by rfl) B.isinstance bt_isinstance (pa_cons (pv 1) (pa_cons (pe_tup (pa_cons (pe_bltn (v := .ty "list") (u := .type "list") (by rfl) B.list bt_list rfl) (pa_cons (pe_bltn (v := .ty "tuple") (u := .type "tuple") (by rfl) B.tuple bt_tuple rfl) pa_nil))) pa_nil)))) (pe_callTy (ktupF (K := K) rfl) (by rfl) B.tuple bt_tuple (pa_cons (pv 1) pa_nil)) (pv 1)))) pa_nil)))),
    fn_run h (fun po => (s_ret fun _ => (a_b1 u_tupOf (a_pk (a_fz (a_lc (vs := [1]) (i_tup a_var) (g_name (by decide)) a_yes (a_if (a_tb (a_isLT a_var)) (a_b1 u_tupOf (a_pk a_var)) a_var))))))) (fun ds P a => by obtain ⟨_, rfl, _⟩ := a; exact Nat.le_of_ble_eq_true rfl) ?_⟩)
  rintro ds P ⟨c, rfl, hp⟩
  have key : ∀ xs : List Dat, (∀ d ∈ xs, (∃ i, d = .int i) ∨ (∃ s, d = .str s) ∨ ∃ ys, d = .tup ys) → xs.length ≤ 100 → cndD c = .tup xs → sRet (a1 kTupOf (aFz (aLc (iSeq tQ (aVar 0)) (gA 1) aYes (aIf (aTest (a1 kIsLT (aVar 1))) (a1 kTupOf (aVar 1)) (aVar 1)) [1]))) { nx := fun _ => P .non, rt := P } [.d (cndD c), .u] := fun xs hx hl e => by
    rw [e]
    walk_at "dw"
    refine ⟨by omega, ?_⟩
    rw [show xs = xs.map id from (List.map_id xs).symm]
    refine lcA_mapL (g := id) (fun d hd Q hQ => ?_) ?_
    · rcases hx d (by simpa using hd) with ⟨i, rfl⟩ | ⟨s, rfl⟩ | ⟨ys, rfl⟩
      · walk_at "dw"
        exact hQ
      · walk_at "dw"
        exact hQ
      · walk_at "dw"
        exact hQ
    · walk_at "dw"
      rw [List.map_id, ← e]
      exact hp
  cases c with
  | tell c f => exact key _ (by intro d hd; simp only [List.mem_cons, List.mem_nil_iff, or_false] at hd; rcases hd with rfl | rfl | rfl <;> exact .inr (.inl ⟨_, rfl⟩)) (Nat.le_of_ble_eq_true rfl) rfl
  | equal c f n => exact key _ (by intro d hd; simp only [List.mem_cons, List.mem_nil_iff, or_false] at hd; rcases hd with rfl | rfl | rfl | rfl <;> first | exact .inr (.inl ⟨_, rfl⟩) | exact .inl ⟨_, rfl⟩) (Nat.le_of_ble_eq_true rfl) rfl
  | least c f n => exact key _ (by intro d hd; simp only [List.mem_cons, List.mem_nil_iff, or_false] at hd; rcases hd with rfl | rfl | rfl | rfl <;> first | exact .inr (.inl ⟨_, rfl⟩) | exact .inl ⟨_, rfl⟩) (Nat.le_of_ble_eq_true rfl) rfl
  | among c f ns => exact key _ (by intro d hd; simp only [List.mem_cons, List.mem_nil_iff, or_false] at hd; rcases hd with rfl | rfl | rfl | rfl <;> first | exact .inr (.inl ⟨_, rfl⟩) | exact .inr (.inr ⟨_, rfl⟩)) (Nat.le_of_ble_eq_true rfl) rfl
  | same c f c2 f2 => exact key _ (by intro d hd; simp only [List.mem_cons, List.mem_nil_iff, or_false] at hd; rcases hd with rfl | rfl | rfl | rfl | rfl <;> exact .inr (.inl ⟨_, rfl⟩)) (Nat.le_of_ble_eq_true rfl) rfl
def aspPolIK (k1 k2 : Bool) : ASpI := fun ds P => ∃ (cs : List Cd) (co : List Cnd), ds = [sqD k1 (cs.map cdD), sqD k2 (co.map cndD)] ∧ (cs.length ≤ 1000 ∧ co.length ≤ 1000) ∧ P [.tup (cs.map cdD), .tup (co.map cndD)]
def aspPolIA : ASpI := fun ds P => ∃ k1 k2, aspPolIK k1 k2 ds P
theorem ok_pol_initA {f : Addr} {fd : FuncData} (F : Fun K "__init__" "Policy.__init__" s_Policy___init__ f fd) (T8 : PoT K (ca 8)) (B : Blt mg) (C__kept : C8.Cal P w K mg base 1 "_kept" (toSp K ca aspKeptP) []) : FnOk P w K mg base CX0 2 f fd ["self", "cards", "conditions"] (toSpI K ca 8 aspPolIA) := by
  refine F.ok sc_Policy___init__ (fun vs H Q E h => by obtain ⟨k1, h⟩ := sp_exI h; obtain ⟨k2, h⟩ := sp_exI h; exact sp_lenI (n := 2) (fun ds P a => by obtain ⟨_, _, rfl, _⟩ := a; rfl) h) (fun cdv A outer s H vs Q E hr h => ?_)
  obtain ⟨k1, h⟩ := sp_exI h
  obtain ⟨k2, h⟩ := sp_exI h
  refine ⟨_, (pss_cons (ps_fld (pv 0) (pe_callTy (ktupF (K := K) rfl) (by rfl) B.tuple bt_tuple (pa_cons (pe_lc (own := [("name", 3), ("kind", 4), ("issuers", 5)]) (tt := tYes) rfl sc_Policy___init__.nd (pi_K k1 (K := K) rfl (pv 1)) (blkOk_by (N := ["self", "cards", "conditions", "name", "kind", "issuers", "condition"]) (sc := defScope s_Policy___init__) (by decide +kernel))
        (fun _ _ _ _ _ => (kgtup (K := K) (n := 3) rfl rfl (pgs_cons (pg_name (i := 3) sc_Policy___init__.nd rfl (.inl rfl)) (pgs_cons (pg_name (i := 4) sc_Policy___init__.nd rfl (.inl rfl)) (pgs_cons (pg_name (i := 5) sc_Policy___init__.nd rfl (.inl rfl)) pgs_nil))))) (fun _ _ _ _ _ => pts_nil)
        (fun _ _ _ _ _ => (pe_tupF (pa_cons (pv 3) (pa_cons (pv 4) (pa_cons (pe_callTy (ktupF (K := K) rfl) (by rfl) B.tuple bt_tuple (pa_cons (pv 5) pa_nil)) pa_nil)))))) pa_nil)) rfl)
      (pss_cons (ps_fld (pv 0) (pe_callTy (ktupF (K := K) rfl) (by rfl) B.tuple bt_tuple (pa_cons (pe_lc (own := [("condition", 6)]) (g := gName 6) (tt := tYes) rfl sc_Policy___init__.nd (pi_K k2 (K := K) rfl (pv 2)) (blkOk_by (N := ["self", "cards", "conditions", "name", "kind", "issuers", "condition"]) (sc := defScope s_Policy___init__) (by decide +kernel))
        (fun _ _ _ _ _ => (pg_name (i := 6) sc_Policy___init__.nd rfl (.inl rfl))) (fun _ _ _ _ _ => pts_nil)
        (fun _ _ _ _ _ => (C8.pe_c C__kept hr (by omega) rfl (pa_cons (pv 6) pa_nil)))) pa_nil)) rfl) pss_nil)),
    fn_init h (fun po => (i_cons T8.cl T8.n_cards (k := 0) rfl (by decide) (by decide) (fun _ => (a_b1 u_tupOf (a_pk (a_fz (a_lc (vs := [3, 4, 5]) (i_K a_var) (g_tup (g_cons (g_name (by decide)) (g_cons (g_name (by decide)) (g_cons (g_name (by decide)) g_nil tot_name) tot_name) tot_name)) a_yes (a_tup (a_cons a_var (a_cons a_var (a_cons (a_b1 u_tupOf (a_pk a_var)) a_nil))))))))) (i_cons T8.cl T8.n_conditions (k := 1) rfl (by decide) (by decide) (fun _ => (a_b1 u_tupOf (a_pk (a_fz (a_lc (vs := [6]) (i_K a_var) (g_name (by decide)) a_yes (a_call (a_cons a_var a_nil))))))) i_nil))) (fun ds P a => by obtain ⟨_, _, rfl, _⟩ := a; exact Nat.le_of_ble_eq_true rfl) ?_⟩
  rintro ds P ⟨cs, co, rfl, ⟨hl, hl2⟩, hp⟩
  walk_at "dw"
  refine kQ_sq ⟨by rw [List.length_map]; omega, ?_⟩
  refine lcA_mapL (g := cdD) (fun c hc Q hQ => ?_) ?_
  · unfold cdD
    walk_at "dw"
    exact hQ
  walk_at "dw"
  refine kQ_sq ⟨by rw [List.length_map]; omega, ?_⟩
  refine lcA_mapL (g := cndD) (fun c hc Q hQ => ?_) ?_
  · walk_at "dw"
    exact ⟨c, rfl, hQ⟩
  exact hp
theorem pol_I3 {ds : List Dat} {P : List Dat → Prop} (h : aspPolI3 ds P) : aspPolIA ds P := by
  obtain ⟨cs, co, rfl, l, hp⟩ := h
  exact ⟨false, false, cs, co, rfl, l, hp⟩
def CnStr : Cnd → Prop
  | .tell c f => PyData.strOk c = true ∧ PyData.strOk f = true
  | .equal c f _ => PyData.strOk c = true ∧ PyData.strOk f = true
  | .least c f _ => PyData.strOk c = true ∧ PyData.strOk f = true
  | .among c f _ => PyData.strOk c = true ∧ PyData.strOk f = true
  | .same c f c2 f2 => PyData.strOk c = true ∧ PyData.strOk f = true ∧ PyData.strOk c2 = true ∧ PyData.strOk f2 = true
abbrev s_policy_text : Stmt := top 30
theorem sc_policy_text : FnScope ["policy", "words", "name", "kind", "issuers", "condition", "part", "number"] ["policy"] (defScope s_policy_text) := ⟨rfl, rfl, rfl, by decide +kernel, rfl, by decide +kernel, by decide +kernel⟩
def aspPText : ASp := fun ds P => ∃ (cs : List Cd) (co : List Cnd), ds = [polC cs co] ∧ ((polW cs co).length ≤ 1000 ∧ (∀ w ∈ polW cs co, w.length ≤ 1000) ∧ ∀ x ∈ co, CnSm x) ∧ P (.str (Txt.join " " (polW cs co)))
theorem ok_policy_text {f : Addr} {fd : FuncData} (F : Fun K "policy_text" "policy_text" s_policy_text f fd) (T8 : PoT K (ca 8)) (B : Blt mg) : FnOk P w K mg base CX0 1 f fd ["policy"] (toSp K ca aspPText) := by
  refine F.ok sc_policy_text (fun vs H Q E h => sp_len (n := 1) (fun ds P a => by obtain ⟨_, _, rfl, _⟩ := a; rfl) h) (fun cdv A outer s H vs Q E hr h => ⟨_, (pss_cons (ps_set (i := 1) sc_policy_text.nd rfl (.inl rfl) (pe_lst pa_nil))
      (pss_cons (ps_for PassesOwn.never rfl (kpit (K := K) rfl (kfld (K := K) rfl (pv 0))) (kgtup (K := K) (n := 3) rfl rfl (pgs_cons (pg_name (i := 2) sc_policy_text.nd rfl (.inl rfl)) (pgs_cons (pg_name (i := 3) sc_policy_text.nd rfl (.inl rfl)) (pgs_cons (pg_name (i := 4) sc_policy_text.nd rfl (.inl rfl)) pgs_nil))))
      (pss_one (ps_expr (pe_bm PySem.F.plainAttrs_list PySem.F.slot_list_extend PySem.F.type_list_extend mt_extend (pv 1) (pa_cons (pe_lst (pa_cons pe_str (pa_cons (pv 2) (pa_cons (pv 3) (pa_cons pe_str (kstar (K := K) rfl (pv 4) pa_nil)))))) pa_nil)))))
      (pss_cons (ps_for PassesOwn.never rfl (kpit (K := K) rfl (kfld (K := K) rfl (pv 0))) (pg_name (i := 5) sc_policy_text.nd rfl (.inl rfl))
      (pss_one (ps_for PassesOwn.never rfl (kpit (K := K) rfl (pv 5)) (pg_name (i := 6) sc_policy_text.nd rfl (.inl rfl))
      (pss_one (ps_expr (pe_bm PySem.F.plainAttrs_list PySem.F.slot_list_extend PySem.F.type_list_extend mt_extend (pv 1) (pa_cons (pe_ifExp (pt_val (pe_callB (kisi (K := K) rfl) (by rfl) B.isinstance bt_isinstance (pa_cons (pv 6) (pa_cons (pe_bltn (v := .ty "tuple") (u := .type "tuple") (by rfl) B.tuple bt_tuple rfl) pa_nil)))) (pe_lc (own := [("number", 7)]) (g := gName 7) (tt := tYes) rfl sc_policy_text.nd (kpit (K := K) rfl (pv 6)) (blkOk_by (N := ["policy", "words", "name", "kind", "issuers", "condition", "part", "number"]) (sc := defScope s_policy_text) (by decide +kernel))
        (fun _ _ _ _ _ => (pg_name (i := 7) sc_policy_text.nd rfl (.inl rfl))) (fun _ _ _ _ _ => pts_nil)
        (fun _ _ _ _ _ => (pe_callTy call_str_int (by rfl) B.str bt_str (pa_cons (pv 7) pa_nil)))) (pe_lst (pa_cons (pe_callTy call_strB (by rfl) B.str bt_str (pa_cons (pv 6) pa_nil)) pa_nil))) pa_nil)))))))
      (pss_one (ps_ret (pe_join pe_str (pv 1))))))),
    fn_run h (fun po => (s_seq (s_setO fun _ => (a_lst a_nil))
      (s_seq (s_for (vs := [2, 3, 4]) (fun _ => (i_tup (a_fld T8.cl T8.n_cards (c := 8) (i := 0) rfl a_var))) (fun _ => (g_tup (g_cons (g_name (by decide)) (g_cons (g_name (by decide)) (g_cons (g_name (by decide)) g_nil tot_name) tot_name) tot_name)))
      (s_ext fun _ => (a_fz (a_lstS (a_consS a_str (a_consS a_var (a_consS a_var (a_consS a_str (a_starS (a_pk a_var) a_nilS)))))))))
      (s_seq (s_for (vs := [5]) (fun _ => (i_tup (a_fld T8.cl T8.n_conditions (c := 8) (i := 1) rfl a_var))) (fun _ => (g_name (by decide)))
      (s_for (vs := [6]) (fun _ => (i_tup a_var)) (fun _ => (g_name (by decide)))
      (s_ext fun _ => (a_if (a_tb (a_isT (by decide) a_var)) (a_fz (a_lc (vs := [7]) (i_tup a_var) (g_name (by decide)) a_yes (a_b1 u_str a_var))) (a_fz (a_lst (a_cons (a_b1 u_strB a_var) a_nil)))))))
      (s_fz (i := 1) (s_ret fun _ => (a_join a_str a_var))))))) (fun ds P a => by obtain ⟨_, _, rfl, _⟩ := a; exact Nat.le_of_ble_eq_true rfl) ?_⟩)
  rintro ds P ⟨cs, co, rfl, ⟨lw, hw, hsm⟩, hp⟩
  refine seqG fun N hN => ?_
  walk_at "dw"
  subst hN
  refine seqG fun N hN => ?_
  have pre : ∀ {a b c : List Str}, polW cs co = a ++ b ++ c → a.length + b.length ≤ 1000 := fun e => by
    rw [e, List.length_append, List.length_append] at lw
    omega
  rw [show polC cs co = .obj 8 [.tup (cs.map cdD), .tup (co.map cndD)] from rfl]
  walk_at "dw"
  have hSt : ∃ W : List Cd → List Sl → Prop, ∀ xs env, W xs env ↔ ∃ (dn : List Cd) (t2 t3 t4 t5 t6 t7 : Sl), env = [Sl.d (.obj 8 [.tup (cs.map cdD), .tup (co.map cndD)]), Sl.o ((dn.flatMap cardW).map .str), t2, t3, t4, t5, t6, t7] ∧ dn ++ xs = cs := ⟨_, fun _ _ => Iff.rfl⟩
  obtain ⟨W, hW⟩ := hSt
  refine forA_suf (f := cdD) W ?_ ?_ cs _ ((hW _ _).mpr ⟨[], _, _, _, _, _, _, rfl, rfl⟩)
  · intro c xs env w N2 hN2
    obtain ⟨dn, t2, t3, t4, t5, t6, t7, rfl, edn⟩ := (hW _ _).mp w
    clear w
    rw [show cdD c = .tup [.str c.nm, .str c.kn, .tup (c.is.map .str)] from rfl]
    walk_at "dw"
    have ep : polW cs co = dn.flatMap cardW ++ cardW c ++ (xs.flatMap cardW ++ co.flatMap cndW) := by
      unfold polW
      rw [← edn, List.flatMap_append, List.flatMap_cons, List.append_assoc, List.append_assoc, List.append_assoc]
    have lp := pre ep
    rw [show (cardW c).length = c.is.length + 4 from rfl] at lp
    rw [List.append_nil]
    refine ⟨by rw [List.length_map]; omega, by rw [List.length_map, List.length_map]; omega, ?_⟩
    have e : (dn.flatMap cardW).map Dat.str ++ Dat.str (Str.ofString "card") :: Dat.str c.nm :: Dat.str c.kn :: Dat.str (Str.ofString "from") :: c.is.map Dat.str = ((dn ++ [c]).flatMap cardW).map Dat.str := by
      rw [List.flatMap_append, List.flatMap_singleton, List.map_append]
      rfl
    rw [e]
    exact hN2 _ ((hW _ _).mpr ⟨dn ++ [c], _, _, _, _, _, _, rfl, by rw [List.append_assoc]; exact edn⟩)
  · intro env w
    obtain ⟨dn, t2, t3, t4, t5, t6, t7, rfl, edn⟩ := (hW _ _).mp w
    rw [List.append_nil] at edn
    subst edn
    show N _
    subst hN
    refine seqG fun N hN => ?_
    walk_at "dw"
    have hSt : ∃ W : List Cnd → List Sl → Prop, ∀ xs env, W xs env ↔ ∃ (dc : List Cnd) (t2 t3 t4 t5 t6 t7 : Sl), env = [Sl.d (.obj 8 [.tup (dn.map cdD), .tup (co.map cndD)]), Sl.o ((dn.flatMap cardW ++ dc.flatMap cndW).map .str), t2, t3, t4, t5, t6, t7] ∧ dc ++ xs = co := ⟨_, fun _ _ => Iff.rfl⟩
    obtain ⟨W, hW⟩ := hSt
    refine forA_suf (f := cndD) W ?_ ?_ co _ ((hW _ _).mpr ⟨[], t2, t3, t4, t5, t6, t7, by rw [List.flatMap_nil, List.append_nil], rfl⟩)
    · intro x xs env w N2 hN2
      obtain ⟨dc, t2, t3, t4, t5, t6, t7, rfl, edc⟩ := (hW _ _).mp w
      clear w
      have ep : polW dn co = dn.flatMap cardW ++ dc.flatMap cndW ++ (cndW x ++ xs.flatMap cndW) := by
        unfold polW
        rw [← edc, List.flatMap_append, List.flatMap_cons, List.append_assoc]
      have mx : x ∈ co := by rw [← edc]; exact List.mem_append.mpr (.inr List.mem_cons_self)
      have sm := cnP_ok (hsm x mx)
      rw [show cndD x = .tup (cnP x) by cases x <;> rfl]
      walk_at "dw"
      have hSt : ∃ W2 : List Dat → List Sl → Prop, ∀ ys env, W2 ys env ↔ ∃ (dp : List Dat) (t6 t7 : Sl), env = [Sl.d (.obj 8 [.tup (dn.map cdD), .tup (co.map cndD)]), Sl.o ((dn.flatMap cardW ++ dc.flatMap cndW ++ dp.flatMap partW).map .str), t2, t3, t4, Sl.d (.tup (cnP x)), t6, t7] ∧ dp ++ ys = cnP x := ⟨_, fun _ _ => Iff.rfl⟩
      obtain ⟨W2, hW2⟩ := hSt
      rw [show cnP x = (cnP x).map id from (List.map_id _).symm]
      refine forA_suf (f := id) W2 ?_ ?_ (cnP x) _ ((hW2 _ _).mpr ⟨[], t6, t7, by rw [List.flatMap_nil, List.append_nil, List.map_id], rfl⟩)
      · intro y ys env w N3 hN3
        obtain ⟨dp, t6, t7, rfl, edp⟩ := (hW2 _ _).mp w
        clear w
        have my : y ∈ cnP x := by rw [← edp]; exact List.mem_append.mpr (.inr List.mem_cons_self)
        have lq : (dn.flatMap cardW ++ dc.flatMap cndW ++ dp.flatMap partW).length + (partW y).length ≤ 1000 := by
          rw [ep, ← cnP_W x, ← edp, List.flatMap_append, List.flatMap_cons] at lw
          simp only [List.length_append] at lw ⊢
          omega
        have go := hN3 [Sl.d (.obj 8 [.tup (dn.map cdD), .tup (co.map cndD)]), Sl.o ((dn.flatMap cardW ++ dc.flatMap cndW ++ (dp ++ [y]).flatMap partW).map .str), t2, t3, t4, Sl.d (.tup (cnP x)), Sl.d y, t7] ((hW2 _ _).mpr ⟨dp ++ [y], _, _, rfl, by rw [List.append_assoc]; exact edp⟩)
        rw [List.flatMap_append, List.flatMap_singleton, ← List.append_assoc, List.map_append] at go
        generalize (dn.flatMap cardW ++ dc.flatMap cndW ++ dp.flatMap partW) = base at go lq
        clear hN3 hW2
        show gA 6 y _ _
        cases sm y my with
        | int i h =>
          walk_at "dw"
          refine ⟨h, by rw [List.length_map]; omega, ?_⟩
          exact go
        | str z =>
          walk_at "dw"
          refine ⟨by rw [List.length_map]; omega, ?_⟩
          exact go
        | tup ns l h =>
          walk_at "dw"
          refine ⟨by rw [List.length_map]; omega, ?_⟩
          refine lcA_mapL (g := fun n : Int => Dat.str (toString n)) (fun n hn Q hQ => ?_) ?_
          · walk_at "dw"
            exact ⟨h n hn, hQ⟩
          refine ⟨by rw [List.length_map, List.length_map]; omega, ?_⟩
          rw [show (partW (.tup (ns.map .int))).map Dat.str = ns.map fun n : Int => Dat.str (toString n) by
            show (((ns.map Dat.int).map fun d => match d with
              | .int i => (toString i : Str)
              | _ => ("" : Str))).map Dat.str = _
            rw [List.map_map, List.map_map]
            rfl] at go
          exact go
      · intro env w
        obtain ⟨dp, t6, t7, rfl, edp⟩ := (hW2 _ _).mp w
        rw [List.append_nil] at edp
        subst edp
        have e : dn.flatMap cardW ++ dc.flatMap cndW ++ (cnP x).flatMap partW = dn.flatMap cardW ++ (dc ++ [x]).flatMap cndW := by
          rw [cnP_W, List.flatMap_append, List.flatMap_singleton, List.append_assoc]
        rw [e]
        exact hN2 _ ((hW _ _).mpr ⟨dc ++ [x], _, _, _, _, _, _, rfl, by rw [List.append_assoc]; exact edc⟩)
    · intro env w
      obtain ⟨dc, t2, t3, t4, t5, t6, t7, rfl, edc⟩ := (hW _ _).mp w
      rw [List.append_nil] at edc
      subst edc
      show N _
      subst hN
      walk_at "dw"
      rw [strsD_map]
      have s := sum_le_mul (f := fun w : Str => w.length) (m := 1000) hw
      refine ⟨?_, hp⟩
      show ((polW dn dc).map (·.length)).sum + (polW dn dc).length * (Str.ofString " ").length ≤ _
      have e1 : (Str.ofString " ").length = 1 := by decide
      rw [e1]
      omega
end
abbrev s__law_name : Stmt := top 37
theorem sc__law_name : FnScope ["pool", "name", "k"] ["pool"] (defScope s__law_name) := ⟨rfl, rfl, rfl, by decide +kernel, rfl, by decide +kernel, by decide +kernel⟩
abbrev s__law_unlike : Stmt := top 38
theorem sc__law_unlike : FnScope ["pool", "count", "names", "k", "name", "other"] ["pool", "count"] (defScope s__law_unlike) := ⟨rfl, rfl, rfl, by decide +kernel, rfl, by decide +kernel, by decide +kernel⟩
theorem pigeon {α : Type} [DecidableEq α] : ∀ {ys xs : List α}, ys.Nodup → (∀ y ∈ ys, y ∈ xs) → ys.length ≤ xs.length
  | [], _, _, _ => Nat.zero_le _
  | y :: ys, xs, nd, h => by
    rw [List.nodup_cons] at nd
    have my := h y List.mem_cons_self
    have := pigeon (ys := ys) (xs := xs.erase y) nd.2 fun z hz => (List.mem_erase_of_ne (fun e => nd.1 (by rw [← e]; exact hz))).mpr (h z (List.mem_cons_of_mem _ hz))
    rw [List.length_erase_of_mem my] at this
    have := List.length_pos_of_mem my
    rw [List.length_cons]
    omega
theorem kIn_sT {x : Str} {xs : List Str} {P : Dat → Prop} (h : P (.bl (decide (x ∈ xs)))) : kIn false (.str x) (.tup (xs.map .str)) P := by
  refine ⟨rfl, List.all_eq_true.mpr fun d hd => (by obtain ⟨x, _, rfl⟩ := List.mem_map.mp hd; rfl), fun c hc => ?_⟩
  have e : c = decide (x ∈ xs) := by
    rw [Bool.eq_iff_iff, hc, decide_eq_true_eq]
    constructor
    · intro m
      obtain ⟨y, hy, e⟩ := List.mem_map.mp m
      cases e
      exact hy
    · exact fun m => List.mem_map.mpr ⟨x, m, rfl⟩
  rw [if_neg (by decide), e]
  exact h
theorem kIn_sL {x : Str} {xs : List Str} {P : Dat → Prop} (h : P (.bl (decide (x ∈ xs)))) : kIn false (.str x) (.lst (xs.map .str)) P := kIn_sT h
theorem lt_len : ltS.cps.toList.length = 26 := by decide +kernel
theorem len_app (x y : Str) : (x ++ y).length = x.length + y.length := by
  show (x.cps ++ y.cps).size = _
  rw [Array.size_append]
  rfl
def nmT : List Str := ["a", "b", "me", "you", "town", "age", "club", "person"]
def otT : List Str := ["pp", "qq", "rr", "ss", "tt", "uu", "vv", "ww", "xx"]
theorem nmT_ok : nmT.all isNm = true := by decide +kernel
theorem otT_ok : otT.all isNm = true := by decide +kernel
theorem otT_nd : otT.Nodup := by decide +kernel
/-- letters only -/
def ltrs (x : Str) : Bool := x.cps.toList.all fun c => decide (c ∈ ltS.cps.toList)
theorem ltrs_app {x : Str} {c : Nat} (h : ltrs x = true) (m : c ∈ ltS.cps.toList) : ltrs (x ++ ⟨#[c]⟩) = true := by
  unfold ltrs at h ⊢
  show ((x.cps ++ #[c]).toList.all _) = true
  rw [Array.toList_append, List.all_append, h]
  show ([c].all fun c => decide (c ∈ ltS.cps.toList)) = true
  rw [List.all_cons, decide_eq_true m]
  rfl
theorem isNm_of {x : Str} (h : ltrs x = true) (l1 : 1 ≤ x.length) (l8 : x.length ≤ 8) (k : x ∉ kwS) : isNm x = true := by
  unfold isNm
  rw [decide_eq_false k, decide_eq_true l1, decide_eq_true l8]
  exact h
section
variable {P : Program} {w : World} {K : PySem.W.Frag} {mg : Str → Option Value} {base : Heap} {ca : Nat → Addr} {gKW gCW : Addr}
def aspLName : ASp := fun ds P => ds = [.pool] ∧ ∀ x, isNm x = true → P (.str x)
theorem ok_law_name {f : Addr} {fd : FuncData} (F : Fun K "_law_name" "_law_name" s__law_name f fd) (B : Blt mg) (C__law_draw : C8.Cal P w K mg base 1 "_law_draw" (toSp K ca aspDraw) []) : FnOk P w K mg base CX0 2 f fd ["pool"] (toSp K ca aspLName) := by
  refine F.ok sc__law_name (fun vs H Q E h => sp_len (n := 1) (fun ds P a => by obtain ⟨rfl, _⟩ := a; rfl) h) (fun cdv A outer s H vs Q E hr h => ⟨_, (pss_cons (ps_if (pt_cmpR op_gt (C8.pe_c C__law_draw hr (by omega) rfl (pa_cons (pv 0) (pa_cons pe_int pa_nil))) pe_int (nomark _)) (pss_one (ps_ret (pe_ix (kixs (K := K) rfl) (pe_tupF (pa_cons pe_str (pa_cons pe_str (pa_cons pe_str (pa_cons pe_str (pa_cons pe_str (pa_cons pe_str (pa_cons pe_str (pa_cons pe_str pa_nil))))))))) (C8.pe_c C__law_draw hr (by omega) rfl (pa_cons (pv 0) (pa_cons pe_int pa_nil))) (fun _ _ => rfl)))) pss_nil)
      (pss_cons (ps_set (i := 1) sc__law_name.nd rfl (.inl rfl) pe_str)
      (pss_cons (ps_for PassesOwn.never rfl (pi_range1 rfl B.range (pa_cons (pe_op op_add pe_int (C8.pe_c C__law_draw hr (by omega) rfl (pa_cons (pv 0) (pa_cons pe_int pa_nil)))) pa_nil)) (pg_name (i := 2) sc__law_name.nd rfl (.inl rfl))
      (pss_one (ps_set (i := 1) sc__law_name.nd rfl (.inl rfl) (pe_op op_add_str (pv 1) (pe_ix ix_str pe_str (C8.pe_c C__law_draw hr (by omega) rfl (pa_cons (pv 0) (pa_cons pe_int pa_nil))) (fun _ _ => rfl))))))
      (pss_cons (ps_if (pt_cmpR (kin (K := K) rfl) (pv 1) (pe_tupF (pa_cons pe_str (pa_cons pe_str (pa_cons pe_str (pa_cons pe_str (pa_cons pe_str (pa_cons pe_str (pa_cons pe_str pa_nil)))))))) rfl) (pss_one (ps_ret pe_str)) pss_nil)
      (pss_one (ps_ret (pv 1))))))),
    fn_run h (fun po => (s_seq (s_if (fun _ => (a_test (a_op pst_rv rok_B0 (a_call (a_cons a_var (a_cons a_int a_nil))) a_int))) (s_ret fun _ => (a_op pst_pk rok_ix (a_pk (a_tup (a_cons a_str (a_cons a_str (a_cons a_str (a_cons a_str (a_cons a_str (a_cons a_str (a_cons a_str (a_cons a_str a_nil)))))))))) (a_call (a_cons a_var (a_cons a_int a_nil))))) s_next)
      (s_seq (s_set fun _ => a_str)
      (s_seq (s_for (vs := [2]) (fun _ => (i_ran1 (a_cons (a_op pst_rv rok_I0 a_int (a_call (a_cons a_var (a_cons a_int a_nil)))) a_nil))) (fun _ => (g_name (by decide)))
      (s_set fun _ => (a_op pst_rv rok_catS a_var (a_op pst_rv rok_ixS a_str (a_call (a_cons a_var (a_cons a_int a_nil)))))))
      (s_seq (s_if (fun _ => (a_test (a_op pst_rv rok_in a_var (a_pk (a_tup (a_cons a_str (a_cons a_str (a_cons a_str (a_cons a_str (a_cons a_str (a_cons a_str (a_cons a_str a_nil)))))))))))) (s_ret fun _ => a_str) s_next)
      (s_ret fun _ => a_var)))))) (fun ds P a => by obtain ⟨rfl, _⟩ := a; exact Nat.le_of_ble_eq_true rfl) ?_⟩)
  rintro ds P ⟨rfl, hp⟩
  refine seqG fun N hN => ?_
  walk_at "dw"
  refine draw (by omega) (by omega) fun v v0 v1 => ?_
  walk_at "dw"
  refine twoD (fun _ => ?_) (fun _ => ?_)
  · refine draw (by omega) (by omega) fun u u0 u1 => ?_
    refine (show kIx (.tup (nmT.map .str)) (.int u) P from ?_)
    rw [kIx_t]
    exact oa_any u0 (show u < ((8 : Nat) : Int) from u1) fun x hx => hp x (List.all_eq_true.mp nmT_ok x hx)
  subst hN
  refine seqG fun N hN => ?_
  walk_at "dw"
  subst hN
  refine seqG fun N hN => ?_
  walk_at "dw"
  refine draw (by omega) (by omega) fun u u0 u1 => ?_
  walk_at "dw"
  refine ⟨by omega, by omega, ?_⟩
  have hSt : ∃ W : Nat → List Sl → Prop, ∀ i env, W i env ↔ ∃ (x : Str) (t2 : Sl), env = [Sl.d .pool, Sl.d (.str x), t2] ∧ x.length = i ∧ ltrs x = true := ⟨_, fun _ _ => Iff.rfl⟩
  obtain ⟨W, hW⟩ := hSt
  refine forA_ran W ((hW _ _).mpr ⟨_, _, rfl, rfl, rfl⟩) ?_ ?_
  · intro i env hi w N2 hN2
    obtain ⟨x, t2, rfl, lx, hx⟩ := (hW _ _).mp w
    clear w
    walk_at "dw"
    refine draw (by omega) (by omega) fun c c0 c1 => ?_
    obtain ⟨j, rfl⟩ := Int.eq_ofNat_of_zero_le c0
    have hj : ltS.cps.toList[j]? = some (ltS.cps.toList[j]'(by rw [lt_len]; omega)) := List.getElem?_eq_getElem _
    have mj := List.mem_of_getElem? hj
    generalize ltS.cps.toList[j]'(by rw [lt_len]; omega) = ch at hj mj
    rw [kIxS_i]
    refine ⟨by decide, ch, atD rfl hj, ?_⟩
    refine (show x.length + (⟨#[ch]⟩ : Str).length ≤ 100000 ∧ N2 [Sl.d .pool, Sl.d (.str (x ++ ⟨#[ch]⟩)), Sl.d (.int (0 + (i : Int)))] from ⟨?_, hN2 _ ((hW _ _).mpr ⟨_, _, rfl, ?_, ltrs_app hx mj⟩)⟩)
    · show x.length + 1 ≤ 100000
      omega
    · rw [len_app, lx]
      rfl
  · intro env w
    obtain ⟨x, t2, rfl, lx, hx⟩ := (hW _ _).mp w
    show N _
    subst hN
    refine seqG fun N hN => ?_
    walk_at "dw"
    refine (show kIn false (.str x) (.tup (kwS.map .str)) _ from kIn_sT ?_)
    walk_at "dw"
    refine twoD (fun _ => hp _ (by decide +kernel)) (fun e => ?_)
    subst hN
    walk_at "dw"
    exact hp x (isNm_of hx (by omega) (by omega) e)
def aspLUnl : ASp := fun ds P => ∃ n : Nat, ds = [.pool, .int n] ∧ n ≤ 8 ∧ ∀ xs : List Str, xs.length = n → xs.Nodup → (∀ x ∈ xs, isNm x = true) → P (.lst (xs.map .str))
theorem ok_law_unlike {f : Addr} {fd : FuncData} (F : Fun K "_law_unlike" "_law_unlike" s__law_unlike f fd) (B : Blt mg) (C__law_name : C8.Cal P w K mg base 2 "_law_name" (toSp K ca aspLName) []) : FnOk P w K mg base CX0 3 f fd ["pool", "count"] (toSp K ca aspLUnl) := by
  refine F.ok sc__law_unlike (fun vs H Q E h => sp_len (n := 2) (fun ds P a => by obtain ⟨_, rfl, _⟩ := a; rfl) h) (fun cdv A outer s H vs Q E hr h => ⟨_, (pss_cons (ps_set (i := 2) sc__law_unlike.nd rfl (.inl rfl) (pe_lst pa_nil))
      (pss_cons (ps_for PassesOwn.never rfl (pi_range1 rfl B.range (pa_cons (pv 1) pa_nil)) (pg_name (i := 3) sc__law_unlike.nd rfl (.inl rfl))
      (pss_cons (ps_set (i := 4) sc__law_unlike.nd rfl (.inl rfl) (C8.pe_c C__law_name hr (by omega) rfl (pa_cons (pv 0) pa_nil)))
      (pss_cons (ps_for PassesOwn.never rfl (kpit (K := K) rfl (pe_tupF (pa_cons pe_str (pa_cons pe_str (pa_cons pe_str (pa_cons pe_str (pa_cons pe_str (pa_cons pe_str (pa_cons pe_str (pa_cons pe_str (pa_cons pe_str pa_nil))))))))))) (pg_name (i := 5) sc__law_unlike.nd rfl (.inl rfl))
      (pss_one (ps_if (pt_cmpR (kin (K := K) rfl) (pv 4) (pv 2) rfl) (pss_one (ps_set (i := 4) sc__law_unlike.nd rfl (.inl rfl) (pv 5))) pss_nil)))
      (pss_one (ps_expr (pe_bm PySem.F.plainAttrs_list PySem.F.slot_list_append PySem.F.type_list_append mt_append (pv 2) (pa_cons (pv 4) pa_nil)))))))
      (pss_one (ps_ret (pv 2))))),
    fn_run h (fun po => (s_seq (s_setO fun _ => (a_lst a_nil))
      (s_seq (s_for (vs := [3]) (fun _ => (i_ran1 (a_cons a_var a_nil))) (fun _ => (g_name (by decide)))
      (s_seq (s_set fun _ => (a_call (a_cons a_var a_nil)))
      (s_seq (s_for (vs := [5]) (fun _ => (i_tup (a_tup (a_cons a_str (a_cons a_str (a_cons a_str (a_cons a_str (a_cons a_str (a_cons a_str (a_cons a_str (a_cons a_str (a_cons a_str a_nil)))))))))))) (fun _ => (g_name (by decide)))
      (s_if (fun _ => (a_test (a_op pst_rv rok_in a_var a_peek))) (s_set fun _ => a_var) s_next))
      (s_app fun _ => a_var))))
      (s_fz (i := 2) (s_ret fun _ => a_var))))) (fun ds P a => by obtain ⟨_, rfl, _⟩ := a; exact Nat.le_of_ble_eq_true rfl) ?_⟩)
  rintro ds P ⟨n, rfl, n8, hp⟩
  refine seqG fun N hN => ?_
  walk_at "dw"
  subst hN
  refine seqG fun N hN => ?_
  walk_at "dw"
  refine ⟨by omega, by omega, ?_⟩
  rw [Int.toNat_natCast]
  have hSt : ∃ W : Nat → List Sl → Prop, ∀ i env, W i env ↔ ∃ (xs : List Str) (t3 t4 t5 : Sl), env = [Sl.d .pool, Sl.d (.int n), Sl.o (xs.map .str), t3, t4, t5] ∧ xs.length = i ∧ xs.Nodup ∧ ∀ x ∈ xs, isNm x = true := ⟨_, fun _ _ => Iff.rfl⟩
  obtain ⟨W, hW⟩ := hSt
  refine forA_ran W ((hW _ _).mpr ⟨[], _, _, _, rfl, rfl, List.nodup_nil, fun x h => by cases h⟩) ?_ ?_
  · intro i env hi w N2 hN2
    obtain ⟨xs, t3, t4, t5, rfl, lx, nd, al⟩ := (hW _ _).mp w
    clear w
    refine seqG fun N3 hN3 => ?_
    walk_at "dw"
    refine ⟨rfl, fun x nx => ?_⟩
    subst hN3
    refine seqG fun N3 hN3 => ?_
    walk_at "dw"
    rw [show ([Dat.str (Str.ofString "pp"), Dat.str (Str.ofString "qq"), Dat.str (Str.ofString "rr"), Dat.str (Str.ofString "ss"), Dat.str (Str.ofString "tt"), Dat.str (Str.ofString "uu"), Dat.str (Str.ofString "vv"), Dat.str (Str.ofString "ww"), Dat.str (Str.ofString "xx")] : List Dat) = otT.map Dat.str from rfl]
    have hSt : ∃ W2 : List Str → List Sl → Prop, ∀ ys env, W2 ys env ↔ ∃ (dn : List Str) (y : Str) (t5 : Sl), env = [Sl.d .pool, Sl.d (.int n), Sl.o (xs.map .str), Sl.d (.int (0 + (i : Int))), Sl.d (.str y), t5] ∧ dn ++ ys = otT ∧ isNm y = true ∧ (y ∈ xs → ∀ z ∈ dn, z ∈ xs) := ⟨_, fun _ _ => Iff.rfl⟩
    obtain ⟨W2, hW2⟩ := hSt
    refine forA_suf (f := Dat.str) W2 ?_ ?_ otT _ ((hW2 _ _).mpr ⟨[], x, _, rfl, rfl, nx, fun _ z h => (by cases h)⟩)
    · intro o ys env w N4 hN4
      obtain ⟨dn, y, t5, rfl, edn, ny, al2⟩ := (hW2 _ _).mp w
      clear w
      have mo : o ∈ otT := by rw [← edn]; exact List.mem_append.mpr (.inr List.mem_cons_self)
      have no := List.all_eq_true.mp otT_ok o mo
      walk_at "dw"
      refine kIn_sL ?_
      walk_at "dw"
      refine twoD (fun e => ?_) (fun e => ?_)
      · refine hN4 _ ((hW2 _ _).mpr ⟨dn ++ [o], o, _, rfl, by rw [List.append_assoc]; exact edn, no, fun mo2 z hz => ?_⟩)
        rcases List.mem_append.mp hz with hz | hz
        · exact al2 e z hz
        · obtain rfl := List.mem_singleton.mp hz
          exact mo2
      · exact hN4 _ ((hW2 _ _).mpr ⟨dn ++ [o], y, _, rfl, by rw [List.append_assoc]; exact edn, ny, fun my => absurd my e⟩)
    · intro env w
      obtain ⟨dn, y, t5, rfl, edn, ny, al2⟩ := (hW2 _ _).mp w
      rw [List.append_nil] at edn
      subst edn
      show N3 _
      subst hN3
      have hy : y ∉ xs := fun m => by
        have := pigeon otT_nd (al2 m)
        have e : otT.length = 9 := rfl
        omega
      walk_at "dw"
      refine ⟨by rw [List.length_map]; omega, ?_⟩
      have := hN2 [Sl.d .pool, Sl.d (.int n), Sl.o ((xs ++ [y]).map .str), Sl.d (.int (0 + (i : Int))), Sl.d (.str y), t5] ((hW _ _).mpr ⟨xs ++ [y], _, _, _, rfl, by rw [List.length_append, lx]; rfl, ?_, fun z hz => ?_⟩)
      · rw [List.map_append] at this
        exact this
      · refine List.nodup_append.mpr ⟨nd, List.nodup_cons.mpr ⟨List.not_mem_nil, List.nodup_nil⟩, fun a ha b hb e => ?_⟩
        obtain rfl := List.mem_singleton.mp hb
        exact hy (by rw [← e]; exact ha)
      · rcases List.mem_append.mp hz with hz | hz
        · exact al z hz
        · obtain rfl := List.mem_singleton.mp hz
          exact ny
  · intro env w
    obtain ⟨xs, t3, t4, t5, rfl, lx, nd, al⟩ := (hW _ _).mp w
    show N _
    subst hN
    walk_at "dw"
    exact hp xs lx nd al
end
abbrev s__law_all_kinds : Stmt := top 39
theorem sc__law_all_kinds : FnScope ["pool", "kinds", "name", "fields", "field"] ["pool"] (defScope s__law_all_kinds) := ⟨rfl, rfl, rfl, by decide +kernel, rfl, by decide +kernel, by decide +kernel⟩
abbrev s__law_pairs : Stmt := top 40
theorem sc__law_pairs : FnScope ["kinds", "cards", "found", "name", "kind", "issuers", "fields", "own", "field", "size"] ["kinds", "cards"] (defScope s__law_pairs) := ⟨rfl, rfl, rfl, by decide +kernel, rfl, by decide +kernel, by decide +kernel⟩
abbrev s__law_words : Stmt := top 42
theorem sc__law_words : FnScope ["policy", "words", "name", "kind", "issuers", "row", "number"] ["policy"] (defScope s__law_words) := ⟨rfl, rfl, rfl, by decide +kernel, rfl, by decide +kernel, by decide +kernel⟩
def kdT (k : Kd) : Dat := .tup [.str k.1, .tup (k.2.map fmD)]
/-- the law's kinds -/
structure KsA (ks : List Kd) : Prop where
  l1 : 1 ≤ ks.length
  l8 : ks.length ≤ 8
  nd : (ks.map (·.1)).Nodup
  nm : ∀ k ∈ ks, isNm k.1 = true
  f4 : ∀ k ∈ ks, k.2.length ≤ 4 ∧ (k.2.map (·.1)).Nodup ∧ ∀ f ∈ k.2, isNm f.1 = true ∧ 1 ≤ f.2 ∧ f.2 ≤ 16
theorem lkK_nd {ks : List Kd} {k : Kd} (nd : (ks.map (·.1)).Nodup) (m : k ∈ ks) : lkK k.1 ks = some k.2 := by
  have gen : ∀ (ks : List Kd) (a : Option (List Fld)), (ks.map (·.1)).Nodup → (k ∈ ks ∨ (k.1 ∉ ks.map (·.1) ∧ a = some k.2)) → ks.foldl (fun a x => if x.1 = k.1 then some x.2 else a) a = some k.2 := fun ks => by
    induction ks with
    | nil =>
      intro a _ h
      rcases h with h | h
      · cases h
      · exact h.2
    | cons x ks ih =>
      intro a nd h
      rw [List.map_cons, List.nodup_cons] at nd
      rw [List.foldl_cons]
      by_cases e : x = k
      · subst e
        rw [if_pos rfl]
        exact ih _ nd.2 (.inr ⟨nd.1, rfl⟩)
      · rcases h with h | h
        · rcases List.mem_cons.mp h with h | h
          · exact absurd h.symm e
          · have ne : x.1 ≠ k.1 := fun z => nd.1 (by rw [z]; exact List.mem_map.mpr ⟨k, h, rfl⟩)
            rw [if_neg ne]
            exact ih _ nd.2 (.inl h)
        · rw [List.map_cons, List.mem_cons, not_or] at h
          rw [if_neg (fun z => h.1.1 z.symm)]
          exact ih _ nd.2 (.inr ⟨h.1.2, h.2⟩)
  exact gen ks none nd (.inl m)
theorem filt_nd {ks : List Kd} {k : Kd} (nd : (ks.map (·.1)).Nodup) (m : k ∈ ks) : ks.filter (fun x => decide (x.1 = k.1)) = [k] := by
  induction ks with
  | nil => cases m
  | cons x ks ih =>
    rw [List.map_cons, List.nodup_cons] at nd
    rcases List.mem_cons.mp m with h | h
    · subst h
      rw [List.filter_cons, if_pos (decide_eq_true rfl)]
      congr 1
      refine List.filter_eq_nil_iff.mpr fun y hy z => nd.1 ?_
      rw [← of_decide_eq_true z]
      exact List.mem_map.mpr ⟨y, hy, rfl⟩
    · have ne : x.1 ≠ k.1 := fun z => nd.1 (by rw [z]; exact List.mem_map.mpr ⟨k, h, rfl⟩)
      rw [List.filter_cons, if_neg (by rw [decide_eq_false ne]; decide)]
      exact ih nd.2 h
theorem fm_len {α β : Type} {f : α → List β} {m : Nat} : ∀ {l : List α}, (∀ x ∈ l, (f x).length ≤ m) → (l.flatMap f).length ≤ l.length * m
  | [], _ => Nat.zero_le _
  | x :: l, h => by
    rw [List.flatMap_cons, List.length_append, List.length_cons, Nat.succ_mul]
    have := h x List.mem_cons_self
    have := fm_len (l := l) fun y hy => h y (List.mem_cons_of_mem _ hy)
    omega
/-- a value of the law's -/
def prV (v : Vl) : Dat := .tup [.tup [.str v.cn, .str v.fn], .int v.sz]
section
variable {P : Program} {w : World} {K : PySem.W.Frag} {mg : Str → Option Value} {base : Heap} {ca : Nat → Addr} {gKW gCW : Addr}
def aspLAK : ASp := fun ds P => ds = [.pool] ∧ ∀ ks, KsA ks → P (.lst (ks.map kdT))
theorem ok_law_all_kinds {f : Addr} {fd : FuncData} (F : Fun K "_law_all_kinds" "_law_all_kinds" s__law_all_kinds f fd) (B : Blt mg) (C__law_draw : C8.Cal P w K mg base 1 "_law_draw" (toSp K ca aspDraw) []) (C__law_unlike : C8.Cal P w K mg base 3 "_law_unlike" (toSp K ca aspLUnl) []) : FnOk P w K mg base CX0 4 f fd ["pool"] (toSp K ca aspLAK) := by
  refine F.ok sc__law_all_kinds (fun vs H Q E h => sp_len (n := 1) (fun ds P a => by obtain ⟨rfl, _⟩ := a; rfl) h) (fun cdv A outer s H vs Q E hr h => ⟨_, (pss_cons (ps_set (i := 1) sc__law_all_kinds.nd rfl (.inl rfl) (pe_lst pa_nil))
      (pss_cons (ps_for PassesOwn.never rfl (kpil (K := K) rfl (C8.pe_c C__law_unlike hr (by omega) rfl (pa_cons (pv 0) (pa_cons (pe_op op_add pe_int (pe_ix (kixs (K := K) rfl) (pe_tupF (pa_cons (C8.pe_c C__law_draw hr (by omega) rfl (pa_cons (pv 0) (pa_cons pe_int pa_nil))) (pa_cons (C8.pe_c C__law_draw hr (by omega) rfl (pa_cons (pv 0) (pa_cons pe_int pa_nil))) pa_nil))) (pe_callTy call_int1 (by rfl) B.int bt_int (pa_cons (pe_cmpR op_eq (C8.pe_c C__law_draw hr (by omega) rfl (pa_cons (pv 0) (pa_cons pe_int pa_nil))) pe_int (nomark _)) pa_nil)) (fun _ _ => rfl))) pa_nil)))) (pg_name (i := 2) sc__law_all_kinds.nd rfl (.inl rfl))
      (pss_cons (ps_setLc (i := 3) (own := [("field", 4)]) (g := gName 4) (tt := tYes) rfl sc__law_all_kinds.nd rfl rfl (sw_true rfl rfl rfl (by decide +kernel)) (kpil (K := K) rfl (C8.pe_c C__law_unlike hr (by omega) rfl (pa_cons (pv 0) (pa_cons (C8.pe_c C__law_draw hr (by omega) rfl (pa_cons (pv 0) (pa_cons pe_int pa_nil))) pa_nil)))) (blkOk_by (N := ["pool", "kinds", "name", "fields", "field"]) (sc := defScope s__law_all_kinds) (by decide +kernel))
        (fun _ _ _ _ _ => (pg_name (i := 4) sc__law_all_kinds.nd rfl (.inl rfl))) (fun _ _ _ _ _ => pts_nil)
        (fun _ _ _ _ _ => (pe_tupF (pa_cons (pv 4) (pa_cons (pe_op op_add pe_int (C8.pe_c C__law_draw hr (by omega) rfl (pa_cons (pv 0) (pa_cons pe_int pa_nil)))) pa_nil)))))
      (pss_one (ps_expr (pe_bm PySem.F.plainAttrs_list PySem.F.slot_list_append PySem.F.type_list_append mt_append (pv 1) (pa_cons (pe_tupF (pa_cons (pv 2) (pa_cons (pe_callTy (ktupF (K := K) rfl) (by rfl) B.tuple bt_tuple (pa_cons (pv 3) pa_nil)) pa_nil))) pa_nil))))))
      (pss_one (ps_ret (pv 1))))),
    fn_run h (fun po => (s_seq (s_setO fun _ => (a_lst a_nil))
      (s_seq (s_for (vs := [2]) (fun _ => (i_list (a_call (a_cons a_var (a_cons (a_op pst_rv rok_I0 a_int (a_op pst_pk rok_ix (a_pk (a_tup (a_cons (a_call (a_cons a_var (a_cons a_int a_nil))) (a_cons (a_call (a_cons a_var (a_cons a_int a_nil))) a_nil)))) (a_b1 u_int (a_op pst_rv rok_eq (a_call (a_cons a_var (a_cons a_int a_nil))) a_int)))) a_nil))))) (fun _ => (g_name (by decide)))
      (s_seq (s_set fun _ => (a_fz (a_lc (vs := [4]) (i_list (a_call (a_cons a_var (a_cons (a_call (a_cons a_var (a_cons a_int a_nil))) a_nil)))) (g_name (by decide)) a_yes (a_tup (a_cons a_var (a_cons (a_op pst_rv rok_I0 a_int (a_call (a_cons a_var (a_cons a_int a_nil)))) a_nil))))))
      (s_app fun _ => (a_tup (a_cons a_var (a_cons (a_b1 u_tupOf (a_pk a_var)) a_nil))))))
      (s_fz (i := 1) (s_ret fun _ => a_var))))) (fun ds P a => by obtain ⟨rfl, _⟩ := a; exact Nat.le_of_ble_eq_true rfl) ?_⟩)
  rintro ds P ⟨rfl, hp⟩
  refine seqG fun N hN => ?_
  walk_at "dw"
  subst hN
  refine seqG fun N hN => ?_
  walk_at "dw"
  refine draw (by omega) (by omega) fun d3 a0 a1 => ?_
  refine draw (by omega) (by omega) fun d8 b0 b1 => ?_
  refine draw (by omega) (by omega) fun d4 _ _ => ?_
  walk_at "dw"
  obtain ⟨y, hy, y0, y1⟩ : ∃ y : Int, (([Dat.int d3, Dat.int d8] : List Dat)[if d4 = 0 then 1 else 0]? = some (.int y)) ∧ 0 ≤ y ∧ y < 8 := by
    by_cases e : d4 = 0
    · rw [if_pos e]
      exact ⟨d8, rfl, b0, b1⟩
    · rw [if_neg e]
      exact ⟨d3, rfl, a0, by omega⟩
  have hy2 : atI ([Dat.int d3, Dat.int d8] : List Dat) (if decide (d4 = 0) = true then 1 else 0) = some (.int y) := by
    by_cases e : d4 = 0
    · rw [decide_eq_true e, if_pos rfl]
      rw [if_pos e] at hy
      exact atD (j := 1) rfl hy
    · rw [decide_eq_false e, if_neg (by decide)]
      rw [if_neg e] at hy
      exact atD (j := 0) rfl hy
  rw [hy2]
  walk_at "dw"
  obtain ⟨n, hn⟩ : ∃ n : Nat, 1 + y = n := ⟨(1 + y).toNat, by omega⟩
  rw [hn]
  refine ⟨n, rfl, by omega, fun xs lx nd al => ?_⟩
  walk_at "dw"
  have hSt : ∃ W : List Str → List Sl → Prop, ∀ ys env, W ys env ↔ ∃ (ks : List Kd) (t2 t3 t4 : Sl), env = [Sl.d .pool, Sl.o (ks.map kdT), t2, t3, t4] ∧ ks.map (·.1) ++ ys = xs ∧ ∀ k ∈ ks, k.2.length ≤ 4 ∧ (k.2.map (·.1)).Nodup ∧ ∀ f ∈ k.2, isNm f.1 = true ∧ 1 ≤ f.2 ∧ f.2 ≤ 16 := ⟨_, fun _ _ => Iff.rfl⟩
  obtain ⟨W, hW⟩ := hSt
  refine forA_suf (f := Dat.str) W ?_ ?_ xs _ ((hW _ _).mpr ⟨[], _, _, _, rfl, rfl, fun x h => by cases h⟩)
  · intro x ys env w N2 hN2
    obtain ⟨ks, t2, t3, t4, rfl, ek, f4⟩ := (hW _ _).mp w
    clear w
    have lks : ks.length ≤ 8 := by
      have := congrArg List.length ek
      rw [List.length_append, List.length_map] at this
      omega
    refine seqG fun N3 hN3 => ?_
    walk_at "dw"
    refine draw (by omega) (by omega) fun m m0 m1 => ?_
    obtain ⟨mn, rfl⟩ := Int.eq_ofNat_of_zero_le m0
    refine ⟨mn, rfl, by omega, fun fs lf ndf alf => ?_⟩
    walk_at "dw"
    refine ⟨by rw [List.length_map]; omega, ?_⟩
    refine lcA_relL (fun (f : Str) y => ∃ z : Int, y = .tup [.str f, .int z] ∧ 1 ≤ z ∧ z ≤ 16) (fun f hf Q hQ => ?_) fun zs pr => ?_
    · walk_at "dw"
      exact draw (by omega) (by omega) fun v v0 v1 => hQ _ ⟨1 + v, rfl, by omega, by omega⟩
    obtain ⟨fz, rfl, ef, hz⟩ : ∃ fz : List Fld, zs = fz.map fmD ∧ fz.map (·.1) = fs ∧ ∀ f ∈ fz, 1 ≤ f.2 ∧ f.2 ≤ 16 := by
      clear lf ndf alf hN2 hN3
      induction pr with
      | nil => exact ⟨[], rfl, rfl, fun f h => (by cases h)⟩
      | cons h _ ih =>
        obtain ⟨z, rfl, z0, z1⟩ := h
        obtain ⟨fz, rfl, rfl, h2⟩ := ih
        refine ⟨(_, z) :: fz, rfl, rfl, fun f hf => ?_⟩
        rcases List.mem_cons.mp hf with rfl | hf
        · exact ⟨z0, z1⟩
        · exact h2 f hf
    subst hN3
    walk_at "dw"
    refine ⟨by rw [List.length_map]; omega, ?_⟩
    have := hN2 [Sl.d .pool, Sl.o ((ks ++ [(x, fz)]).map kdT), Sl.d (.str x), Sl.d (.lst (fz.map fmD)), t4] ((hW _ _).mpr ⟨ks ++ [(x, fz)], _, _, _, rfl, by rw [List.map_append, List.append_assoc]; exact ek, fun k hk => ?_⟩)
    · rw [List.map_append] at this
      exact this
    · rcases List.mem_append.mp hk with hk | hk
      · exact f4 k hk
      · obtain rfl := List.mem_singleton.mp hk
        have l : (fz.map (·.1)).length = fz.length := List.length_map _
        refine ⟨by rw [ef, lf] at l; show fz.length ≤ 4; omega, by rw [ef]; exact ndf, fun f hf => ⟨alf f.1 (by rw [← ef]; exact List.mem_map.mpr ⟨f, hf, rfl⟩), hz f hf⟩⟩
  · intro env w
    obtain ⟨ks, t2, t3, t4, rfl, ek, f4⟩ := (hW _ _).mp w
    rw [List.append_nil] at ek
    show N _
    subst hN
    walk_at "dw"
    have l : (ks.map (·.1)).length = ks.length := List.length_map _
    rw [ek, lx] at l
    exact hp ks ⟨by omega, by omega, by rw [ek]; exact nd, fun k hk => al _ (by rw [← ek]; exact List.mem_map.mpr ⟨k, hk, rfl⟩), f4⟩
def aspLPr (k : Bool) : ASp := fun ds P => ∃ (ks : List Kd) (cs : List Cd), ds = [.lst (ks.map kdT), sqD k (cs.map cdD)] ∧ (KsA ks ∧ cs.length ≤ 3 ∧ ∀ c ∈ cs, c.kn ∈ ks.map (·.1)) ∧ P (.lst ((valsO ks cs).map prV))
def aspLPrs : ASp := fun ds P => ∃ k, aspLPr k ds P
theorem ok_law_pairs {f : Addr} {fd : FuncData} (F : Fun K "_law_pairs" "_law_pairs" s__law_pairs f fd) (B : Blt mg) : FnOk P w K mg base CX0 1 f fd ["kinds", "cards"] (toSp K ca aspLPrs) := by
  refine F.ok sc__law_pairs (fun vs H Q E h => by obtain ⟨k, h⟩ := sp_ex h; exact sp_len (n := 2) (fun ds P a => by obtain ⟨_, _, rfl, _⟩ := a; rfl) h) (fun cdv A outer s H vs Q E hr h => ?_)
  obtain ⟨k, h⟩ := sp_ex h
  refine ⟨_, (pss_cons (ps_set (i := 2) sc__law_pairs.nd rfl (.inl rfl) (pe_lst pa_nil))
      (pss_cons (ps_for PassesOwn.never rfl (pi_K k (K := K) rfl (pv 1)) (kgtup (K := K) (n := 3) rfl rfl (pgs_cons (pg_name (i := 3) sc__law_pairs.nd rfl (.inr rfl)) (pgs_cons (pg_name (i := 4) sc__law_pairs.nd rfl (.inr rfl)) (pgs_cons (pg_name (i := 5) sc__law_pairs.nd rfl (.inl rfl)) pgs_nil))))
      (pss_cons (ps_set (i := 6) sc__law_pairs.nd rfl (.inl rfl) (pe_ix (kixs (K := K) rfl) (pe_lc (own := [("own", 7), ("fields", 6)]) rfl sc__law_pairs.nd (kpil (K := K) rfl (pv 0)) (blkOk_by (N := ["kinds", "cards", "found", "name", "kind", "issuers", "fields", "own", "field", "size"]) (sc := defScope s__law_pairs) (by decide +kernel))
        (fun _ _ _ _ _ => (kgtup (K := K) (n := 2) rfl rfl (pgs_cons (pg_name (i := 7) sc__law_pairs.nd rfl (.inl rfl)) (pgs_cons (pg_name (i := 6) sc__law_pairs.nd rfl (.inl rfl)) pgs_nil)))) (fun _ _ _ _ _ => pts_one (pt_cmpR op_eq (pv 7) (pv 4) (nomark _)))
        (fun _ _ _ _ _ => (pv 6))) pe_int (fun _ _ => rfl)))
      (pss_one (ps_set (i := 2) sc__law_pairs.nd rfl (.inl rfl) (pe_op op_cat (pv 2) (pe_lc (own := [("field", 8), ("size", 9)]) (tt := tYes) rfl sc__law_pairs.nd (kpit (K := K) rfl (pv 6)) (blkOk_by (N := ["kinds", "cards", "found", "name", "kind", "issuers", "fields", "own", "field", "size"]) (sc := defScope s__law_pairs) (by decide +kernel))
        (fun _ _ _ _ _ => (kgtup (K := K) (n := 2) rfl rfl (pgs_cons (pg_name (i := 8) sc__law_pairs.nd rfl (.inl rfl)) (pgs_cons (pg_name (i := 9) sc__law_pairs.nd rfl (.inl rfl)) pgs_nil)))) (fun _ _ _ _ _ => pts_nil)
        (fun _ _ _ _ _ => (pe_tupF (pa_cons (pe_tupF (pa_cons (pv 3) (pa_cons (pv 8) pa_nil))) (pa_cons (pv 9) pa_nil))))))))))
      (pss_one (ps_ret (pv 2))))),
    fn_run h (fun po => (s_seq (s_set fun _ => (a_fz (a_lst a_nil)))
      (s_seq (s_for (vs := [3, 4, 5]) (fun _ => (i_K a_var)) (fun _ => (g_tup (g_cons (g_name (by decide)) (g_cons (g_name (by decide)) (g_cons (g_name (by decide)) g_nil tot_name) tot_name) tot_name)))
      (s_seq (s_set fun _ => (a_op pst_pk rok_ix (a_pk (a_fz (a_lc (vs := [7, 6]) (i_list a_var) (g_tup (g_cons (g_name (by decide)) (g_cons (g_name (by decide)) g_nil tot_name) tot_name)) (a_test (a_op pst_rv rok_eq a_var a_var)) a_var))) a_int))
      (s_set fun _ => (a_fz (a_opF pst_pk rok_catL (a_pk a_var) (a_pk (a_fz (a_lc (vs := [8, 9]) (i_tup a_var) (g_tup (g_cons (g_name (by decide)) (g_cons (g_name (by decide)) g_nil tot_name) tot_name)) a_yes (a_tup (a_cons (a_tup (a_cons a_var (a_cons a_var a_nil))) (a_cons a_var a_nil)))))))))))
      (s_ret fun _ => a_var)))) (fun ds P a => by obtain ⟨_, _, rfl, _⟩ := a; exact Nat.le_of_ble_eq_true rfl) ?_⟩
  rintro ds P ⟨ks, cs, rfl, ⟨kok, l3, hk⟩, hp⟩
  refine seqG fun N hN => ?_
  walk_at "dw"
  subst hN
  refine seqG fun N hN => ?_
  walk_at "dw"
  refine kQ_sq ?_
  have hSt : ∃ W : List Cd → List Sl → Prop, ∀ xs env, W xs env ↔ ∃ (dn : List Cd) (t3 t4 t5 t6 t7 t8 t9 : Sl), env = [Sl.d (.lst (ks.map kdT)), Sl.d (sqD k (cs.map cdD)), Sl.d (.lst ((valsO ks dn).map prV)), t3, t4, t5, t6, t7, t8, t9] ∧ dn ++ xs = cs := ⟨_, fun _ _ => Iff.rfl⟩
  obtain ⟨W, hW⟩ := hSt
  have lv : ∀ dn : List Cd, (∀ c ∈ dn, c.kn ∈ ks.map (·.1)) → (valsO ks dn).length ≤ dn.length * 4 := fun dn h => fm_len fun c hc => by
    obtain ⟨k, mk, ek⟩ := List.mem_map.mp (h c hc)
    have := (kok.f4 k mk).1
    unfold valsC
    rw [← ek, lkK_nd kok.nd mk, List.length_map]
    exact this
  have l8 := kok.l8
  refine forA_suf (f := cdD) W ?_ ?_ cs _ ((hW _ _).mpr ⟨[], _, _, _, _, _, _, _, rfl, rfl⟩)
  · intro c xs env w N2 hN2
    obtain ⟨dn, t3, t4, t5, t6, t7, t8, t9, rfl, edn⟩ := (hW _ _).mp w
    clear w
    have mc : c ∈ cs := by rw [← edn]; exact List.mem_append.mpr (.inr List.mem_cons_self)
    have ldn : dn.length ≤ 3 := by
      have := congrArg List.length edn
      rw [List.length_append] at this
      omega
    have ld := lv dn fun c hc => hk c (by rw [← edn]; exact List.mem_append.mpr (.inl hc))
    obtain ⟨kk, mk, ek⟩ := List.mem_map.mp (hk c mc)
    have f4 := kok.f4 kk mk
    rw [show cdD c = .tup [.str c.nm, .str c.kn, .tup (c.is.map .str)] from rfl]
    walk_at "dw"
    refine seqG fun N3 hN3 => ?_
    walk_at "dw"
    refine ⟨by rw [List.length_map]; omega, ?_⟩
    refine lcA_filL (g := fun z : Kd => Dat.tup (z.2.map fmD)) (fun z => decide (z.1 = c.kn)) (fun z hz Q q1 q2 => ?_) ?_
    · unfold kdT
      walk_at "dw"
      exact twoD (fun e => q1 (decide_eq_true e)) (fun e => q2 (decide_eq_false e))
    rw [← ek, filt_nd kok.nd mk]
    walk_at "dw"
    subst hN3
    walk_at "dw"
    refine ⟨by rw [List.length_map]; omega, ?_⟩
    refine lcA_mapL (g := fun f : Fld => prV ⟨c.nm, f.1, f.2⟩) (fun f hf Q hQ => ?_) ?_
    · unfold fmD
      walk_at "dw"
      exact hQ
    refine ⟨by rw [List.length_map, List.length_map]; omega, ?_⟩
    have e : (valsO ks dn).map prV ++ (kk.2.map fun f : Fld => prV ⟨c.nm, f.1, f.2⟩) = (valsO ks (dn ++ [c])).map prV := by
      unfold valsO
      rw [List.flatMap_append, List.flatMap_singleton, List.map_append]
      congr 1
      unfold valsC
      rw [← ek, lkK_nd kok.nd mk, List.map_map]
      rfl
    rw [e]
    exact hN2 _ ((hW _ _).mpr ⟨dn ++ [c], _, _, _, _, _, _, _, rfl, by rw [List.append_assoc]; exact edn⟩)
  · intro env w
    obtain ⟨dn, t3, t4, t5, t6, t7, t8, t9, rfl, edn⟩ := (hW _ _).mp w
    rw [List.append_nil] at edn
    subst edn
    show N _
    subst hN
    walk_at "dw"
    exact hp
def aspLWords : ASp := fun ds P => ∃ (cs : List Cd) (co : List Cnd), ds = [.tup [.tup (cs.map cdD), .tup (co.map cndD)]] ∧ ((polW cs co).length ≤ 1000 ∧ ∀ x ∈ co, CnSm x) ∧ P (.lst ((polW cs co).map .str))
theorem ok_law_words {f : Addr} {fd : FuncData} (F : Fun K "_law_words" "_law_words" s__law_words f fd) (B : Blt mg) : FnOk P w K mg base CX0 1 f fd ["policy"] (toSp K ca aspLWords) := by
  refine F.ok sc__law_words (fun vs H Q E h => sp_len (n := 1) (fun ds P a => by obtain ⟨_, _, rfl, _⟩ := a; rfl) h) (fun cdv A outer s H vs Q E hr h => ⟨_, (pss_cons (ps_set (i := 1) sc__law_words.nd rfl (.inl rfl) (pe_lst pa_nil))
      (pss_cons (ps_for PassesOwn.never rfl (kpit (K := K) rfl (pe_ix (kixs (K := K) rfl) (pv 0) pe_int (fun _ _ => rfl))) (kgtup (K := K) (n := 3) rfl rfl (pgs_cons (pg_name (i := 2) sc__law_words.nd rfl (.inl rfl)) (pgs_cons (pg_name (i := 3) sc__law_words.nd rfl (.inl rfl)) (pgs_cons (pg_name (i := 4) sc__law_words.nd rfl (.inl rfl)) pgs_nil))))
      (pss_one (ps_set (i := 1) sc__law_words.nd rfl (.inl rfl) (pe_op op_cat (pe_op op_cat (pv 1) (pe_lst (pa_cons pe_str (pa_cons (pv 2) (pa_cons (pv 3) (pa_cons pe_str pa_nil)))))) (pe_callTy (klist (K := K) rfl) (by rfl) B.list bt_list (pa_cons (pv 4) pa_nil))))))
      (pss_cons (ps_for PassesOwn.never rfl (kpit (K := K) rfl (pe_ix (kixs (K := K) rfl) (pv 0) pe_int (fun _ _ => rfl))) (pg_name (i := 5) sc__law_words.nd rfl (.inl rfl))
      (pss_cons (ps_set (i := 1) sc__law_words.nd rfl (.inl rfl) (pe_op op_cat (pv 1) (pe_callTy (klist (K := K) rfl) (by rfl) B.list bt_list (pa_cons (pe_slice (kslF (K := K) rfl) (pv 5) po_none (po_some pe_int)) pa_nil))))
      (pss_one (ps_if (pt_cmpR op_eq (pe_ix (kixs (K := K) rfl) (pv 5) pe_int (fun _ _ => rfl)) pe_str (nomark _)) (pss_one (ps_set (i := 1) sc__law_words.nd rfl (.inl rfl) (pe_op op_cat (pv 1) (pe_callTy (klist (K := K) rfl) (by rfl) B.list bt_list (pa_cons (pe_slice (kslF (K := K) rfl) (pv 5) (po_some pe_int) po_none) pa_nil))))) (pss_one (ps_if (pt_cmpR op_eq (pe_ix (kixs (K := K) rfl) (pv 5) pe_int (fun _ _ => rfl)) pe_str (nomark _)) (pss_one (ps_set (i := 1) sc__law_words.nd rfl (.inl rfl) (pe_op op_cat (pv 1) (pe_lc (own := [("number", 6)]) (g := gName 6) (tt := tYes) rfl sc__law_words.nd (kpit (K := K) rfl (pe_ix (kixs (K := K) rfl) (pv 5) pe_int (fun _ _ => rfl))) (blkOk_by (N := ["policy", "words", "name", "kind", "issuers", "row", "number"]) (sc := defScope s__law_words) (by decide +kernel))
        (fun _ _ _ _ _ => (pg_name (i := 6) sc__law_words.nd rfl (.inl rfl))) (fun _ _ _ _ _ => pts_nil)
        (fun _ _ _ _ _ => (pe_callTy call_str_int (by rfl) B.str bt_str (pa_cons (pv 6) pa_nil))))))) (pss_one (ps_if (pt_cmpR op_ne (pe_ix (kixs (K := K) rfl) (pv 5) pe_int (fun _ _ => rfl)) pe_str (nomark _)) (pss_one (ps_expr (pe_bm PySem.F.plainAttrs_list PySem.F.slot_list_append PySem.F.type_list_append mt_append (pv 1) (pa_cons (pe_callTy call_str_int (by rfl) B.str bt_str (pa_cons (pe_ix (kixs (K := K) rfl) (pv 5) pe_int (fun _ _ => rfl)) pa_nil)) pa_nil)))) pss_nil))))))))
      (pss_one (ps_ret (pv 1)))))),
    fn_run h (fun po => (s_seq (s_setO fun _ => (a_lst a_nil))
      (s_seq (s_for (vs := [2, 3, 4]) (fun _ => (i_tup (a_op pst_pk rok_ix (a_pk a_var) a_int))) (fun _ => (g_tup (g_cons (g_name (by decide)) (g_cons (g_name (by decide)) (g_cons (g_name (by decide)) g_nil tot_name) tot_name) tot_name)))
      (s_setO fun _ => (a_opF pst_pk rok_catL (a_pk (a_fz (a_opF pst_pk rok_catL a_peek (a_pk (a_fz (a_lst (a_cons a_str (a_cons a_var (a_cons a_var (a_cons a_str a_nil)))))))))) (a_pk (a_fz (a_b1F u_listOf (a_pk a_var)))))))
      (s_seq (s_for (vs := [5]) (fun _ => (i_tup (a_op pst_pk rok_ix (a_pk a_var) a_int))) (fun _ => (g_name (by decide)))
      (s_seq (s_setO fun _ => (a_opF pst_pk rok_catL a_peek (a_pk (a_fz (a_b1F u_listOf (a_pk (a_slT a_var ao_none (ao_some a_int))))))))
      (s_if (fun _ => (a_test (a_op pst_rv rok_eq (a_op pst_pk rok_ix (a_pk a_var) a_int) a_str))) (s_setO fun _ => (a_opF pst_pk rok_catL a_peek (a_pk (a_fz (a_b1F u_listOf (a_pk (a_slT a_var (ao_some a_int) ao_none))))))) (s_if (fun _ => (a_test (a_op pst_rv rok_eq (a_op pst_pk rok_ix (a_pk a_var) a_int) a_str))) (s_setO fun _ => (a_opF pst_pk rok_catL a_peek (a_pk (a_fz (a_lc (vs := [6]) (i_tup (a_op pst_pk rok_ix (a_pk a_var) a_int)) (g_name (by decide)) a_yes (a_b1 u_str a_var)))))) (s_if (fun _ => (a_test (a_op pst_rv rok_ne (a_op pst_pk rok_ix (a_pk a_var) a_int) a_str))) (s_app fun _ => (a_b1 u_str (a_op pst_pk rok_ix (a_pk a_var) a_int))) s_next)))))
      (s_fz (i := 1) (s_ret fun _ => a_var)))))) (fun ds P a => by obtain ⟨_, _, rfl, _⟩ := a; exact Nat.le_of_ble_eq_true rfl) ?_⟩)
  rintro ds P ⟨cs, co, rfl, ⟨lw, hsm⟩, hp⟩
  refine seqG fun N hN => ?_
  walk_at "dw"
  subst hN
  refine seqG fun N hN => ?_
  walk_at "dw"
  have pre : ∀ {a b c : List Str}, polW cs co = a ++ b ++ c → a.length + b.length ≤ 1000 := fun e => by
    rw [e, List.length_append, List.length_append] at lw
    omega
  have hSt : ∃ W : List Cd → List Sl → Prop, ∀ xs env, W xs env ↔ ∃ (dn : List Cd) (t2 t3 t4 t5 t6 : Sl), env = [Sl.d (.tup [.tup (cs.map cdD), .tup (co.map cndD)]), Sl.o ((dn.flatMap cardW).map .str), t2, t3, t4, t5, t6] ∧ dn ++ xs = cs := ⟨_, fun _ _ => Iff.rfl⟩
  obtain ⟨W, hW⟩ := hSt
  refine forA_suf (f := cdD) W ?_ ?_ cs _ ((hW _ _).mpr ⟨[], _, _, _, _, _, rfl, rfl⟩)
  · intro c xs env w N2 hN2
    obtain ⟨dn, t2, t3, t4, t5, t6, rfl, edn⟩ := (hW _ _).mp w
    clear w
    have ep : polW cs co = dn.flatMap cardW ++ cardW c ++ (xs.flatMap cardW ++ co.flatMap cndW) := by
      unfold polW
      rw [← edn, List.flatMap_append, List.flatMap_cons, List.append_assoc, List.append_assoc, List.append_assoc]
    have lp := pre ep
    rw [show (cardW c).length = c.is.length + 4 from rfl] at lp
    rw [show cdD c = .tup [.str c.nm, .str c.kn, .tup (c.is.map .str)] from rfl]
    walk_at "dw"
    refine ⟨by rw [List.length_map]; omega, by simp only [List.length_append, List.length_map, List.length_cons, List.length_nil]; omega, ?_⟩
    have e : (dn.flatMap cardW).map Dat.str ++ [Dat.str (Str.ofString "card"), Dat.str c.nm, Dat.str c.kn, Dat.str (Str.ofString "from")] ++ c.is.map Dat.str = ((dn ++ [c]).flatMap cardW).map Dat.str := by
      rw [List.flatMap_append, List.flatMap_singleton, List.map_append, List.append_assoc]
      rfl
    rw [e]
    exact hN2 _ ((hW _ _).mpr ⟨dn ++ [c], _, _, _, _, _, rfl, by rw [List.append_assoc]; exact edn⟩)
  · intro env w
    obtain ⟨dn, t2, t3, t4, t5, t6, rfl, edn⟩ := (hW _ _).mp w
    rw [List.append_nil] at edn
    subst edn
    show N _
    subst hN
    refine seqG fun N hN => ?_
    walk_at "dw"
    have hSt : ∃ W : List Cnd → List Sl → Prop, ∀ xs env, W xs env ↔ ∃ (dc : List Cnd) (t2 t3 t4 t5 t6 : Sl), env = [Sl.d (.tup [.tup (dn.map cdD), .tup (co.map cndD)]), Sl.o ((dn.flatMap cardW ++ dc.flatMap cndW).map .str), t2, t3, t4, t5, t6] ∧ dc ++ xs = co := ⟨_, fun _ _ => Iff.rfl⟩
    obtain ⟨W, hW⟩ := hSt
    refine forA_suf (f := cndD) W ?_ ?_ co _ ((hW _ _).mpr ⟨[], t2, t3, t4, t5, t6, by rw [List.flatMap_nil, List.append_nil], rfl⟩)
    · intro x xs env w N2 hN2
      obtain ⟨dc, t2, t3, t4, t5, t6, rfl, edc⟩ := (hW _ _).mp w
      clear w
      have ep : polW dn co = (dn.flatMap cardW ++ dc.flatMap cndW) ++ cndW x ++ xs.flatMap cndW := by
        unfold polW
        rw [← edc, List.flatMap_append, List.flatMap_cons]
        simp only [List.append_assoc]
      have lp := pre ep
      have mx : x ∈ co := by rw [← edc]; exact List.mem_append.mpr (.inr List.mem_cons_self)
      have sm := hsm x mx
      refine seqG fun N3 hN3 => ?_
      walk_at "dw"
      have lp2 : (dn.flatMap cardW ++ dc.flatMap cndW).length + (rsC x).length + 3 ≤ 1000 := by
        have e : (cndW x).length = (rsC x).length + 3 := rfl
        omega
      have go : ∀ t2 t3 t4 t5 t6 : Sl, N2 [Sl.d (.tup [.tup (dn.map cdD), .tup (co.map cndD)]), Sl.o ((dn.flatMap cardW ++ dc.flatMap cndW).map .str ++ (cndW x).map .str), t2, t3, t4, t5, t6] := fun t2 t3 t4 t5 t6 => by
        have := hN2 [Sl.d (.tup [.tup (dn.map cdD), .tup (co.map cndD)]), Sl.o ((dn.flatMap cardW ++ (dc ++ [x]).flatMap cndW).map .str), t2, t3, t4, t5, t6] ((hW _ _).mpr ⟨dc ++ [x], _, _, _, _, _, rfl, by rw [List.append_assoc]; exact edc⟩)
        rw [List.flatMap_append, List.flatMap_singleton, ← List.append_assoc, List.map_append] at this
        exact this
      generalize (dn.flatMap cardW ++ dc.flatMap cndW) = bs at lp2 go
      clear hN2 hW
      cases x with
      | tell c f =>
        unfold cndD
        walk_at "dw"
        rw [show cutD [Dat.str (Str.ofString "tell"), Dat.str c, Dat.str f] none (some 3) = [Dat.str (Str.ofString "tell"), .str c, .str f] from rfl]
        refine ⟨by simp only [List.length_map, List.length_cons, List.length_nil]; omega, ?_⟩
        subst hN3
        walk_at "dw"
        exact go _ _ _ _ _
      | equal c f n =>
        unfold cndD
        walk_at "dw"
        rw [show cutD [Dat.str (Str.ofString "equal"), Dat.str c, Dat.str f, Dat.int n] none (some 3) = [Dat.str (Str.ofString "equal"), .str c, .str f] from rfl]
        refine ⟨by simp only [List.length_map, List.length_cons, List.length_nil]; omega, ?_⟩
        subst hN3
        walk_at "dw"
        refine ⟨by simp only [List.length_map, List.length_append, List.length_cons, List.length_nil]; omega, sm, ?_⟩
        rw [List.append_assoc]
        exact go _ _ _ _ _
      | least c f n =>
        unfold cndD
        walk_at "dw"
        rw [show cutD [Dat.str (Str.ofString "least"), Dat.str c, Dat.str f, Dat.int n] none (some 3) = [Dat.str (Str.ofString "least"), .str c, .str f] from rfl]
        refine ⟨by simp only [List.length_map, List.length_cons, List.length_nil]; omega, ?_⟩
        subst hN3
        walk_at "dw"
        refine ⟨by simp only [List.length_map, List.length_append, List.length_cons, List.length_nil]; omega, sm, ?_⟩
        rw [List.append_assoc]
        exact go _ _ _ _ _
      | among c f ns =>
        unfold cndD
        walk_at "dw"
        rw [show cutD [Dat.str (Str.ofString "among"), Dat.str c, Dat.str f, Dat.tup (ns.map .int)] none (some 3) = [Dat.str (Str.ofString "among"), .str c, .str f] from rfl]
        refine ⟨by simp only [List.length_map, List.length_cons, List.length_nil]; omega, ?_⟩
        subst hN3
        walk_at "dw"
        refine ⟨by rw [List.length_map]; have := sm.1; omega, ?_⟩
        refine lcA_mapL (g := fun n : Int => Dat.str (toString n)) (fun n hn Q hQ => ?_) ?_
        · walk_at "dw"
          exact ⟨sm.2 n hn, hQ⟩
        have l2 : (rsC (.among c f ns)).length = ns.length := List.length_map _
        refine ⟨by simp only [List.length_map, List.length_append, List.length_cons, List.length_nil]; omega, ?_⟩
        rw [List.append_assoc, show ([Dat.str (Str.ofString "among"), Dat.str c, Dat.str f] ++ ns.map fun n : Int => Dat.str (toString n)) = (cndW (.among c f ns)).map .str by
          show _ = Dat.str (Str.ofString "among") :: .str c :: .str f :: (ns.map fun n => (toString n : Str)).map Dat.str
          rw [List.map_map]
          rfl]
        exact go _ _ _ _ _
      | same c f c2 f2 =>
        unfold cndD
        walk_at "dw"
        rw [show cutD [Dat.str (Str.ofString "same"), Dat.str c, Dat.str f, Dat.str c2, Dat.str f2] none (some 3) = [Dat.str (Str.ofString "same"), .str c, .str f] from rfl]
        refine ⟨by simp only [List.length_map, List.length_cons, List.length_nil]; omega, ?_⟩
        subst hN3
        walk_at "dw"
        rw [show cutD [Dat.str (Str.ofString "same"), Dat.str c, Dat.str f, Dat.str c2, Dat.str f2] (some 3) none = [.str c2, .str f2] from rfl]
        refine ⟨by simp only [List.length_map, List.length_append, List.length_cons, List.length_nil]; omega, ?_⟩
        rw [List.append_assoc]
        exact go _ _ _ _ _
    · intro env w
      obtain ⟨dc, t2, t3, t4, t5, t6, rfl, edc⟩ := (hW _ _).mp w
      rw [List.append_nil] at edc
      subst edc
      show N _
      subst hN
      walk_at "dw"
      exact hp
end
def kRepL : Dat → Dat → (List Dat → Prop) → Prop
  | .lst xs, .int k, P => 0 ≤ k ∧ k ≤ 1000 ∧ xs.length * k.toNat ≤ 100000 ∧ P (List.replicate k.toNat xs).flatten
  | _, _, _ => False
theorem rv_rep {W : Wd} {F : Addr → Prop} {H : Hp} {vs : List V} {xs : List Dat} (r : RvAll W F H vs xs) : ∀ n : Nat, RvAll W F H (List.replicate n vs).flatten (List.replicate n xs).flatten
  | 0 => .nil
  | n + 1 => by
    rw [List.replicate_succ, List.replicate_succ, List.flatten_cons, List.flatten_cons]
    exact r.append (rv_rep r n)
theorem rok_repL {W : Wd} : RFr W Pk Rv rRep kRepL := fun F H x y d e Q P ok r1 r2 q k => by
  cases d with
  | lst xs =>
    cases r2 with
    | int j =>
      obtain ⟨a, vs, rfl, h1, _, s1⟩ := r1.lst ok
      obtain ⟨j0, j1, hl, p⟩ := q
      refine ⟨a, j, vs, rfl, rfl, h1, by omega, by omega, Nat.le_of_lt (len_size (by rw [s1.length]; exact hl)), fun l n => ?_⟩
      have x2 : Ext W F H F (upd H l (.lst (List.replicate j.toNat vs).flatten)) := Ext.lay ok n
      exact k _ F _ l _ p x2 n (fun f => ok.tr l f n) upd_same ((rv_rep s1 _).sub (x2.sub ok))
    | _ => exact (show False from q).elim
  | _ => exact (show False from q).elim
abbrev s__law_policy : Stmt := top 41
theorem sc__law_policy : FnScope ["pool", "kinds", "cards", "name", "kind", "conditions", "pairs", "k", "pair", "size", "way", "others", "numbers", "other", "more", "number"] ["pool", "kinds"] (defScope s__law_policy) := ⟨rfl, rfl, rfl, by decide +kernel, rfl, by decide +kernel, by decide +kernel⟩
structure CdA (ks : List Kd) (c : Cd) : Prop where
  nm : isNm c.nm = true
  kn : c.kn ∈ ks.map (·.1)
  l1 : 1 ≤ c.is.length
  l3 : c.is.length ≤ 3
  nd : c.is.Nodup
  al : ∀ x ∈ c.is, isNm x = true
structure PolA (ks : List Kd) (cs : List Cd) (co : List Cnd) : Prop where
  l1 : 1 ≤ cs.length
  l3 : cs.length ≤ 3
  nd : (cs.map (·.nm)).Nodup
  cd : ∀ c ∈ cs, CdA ks c
  l6 : co.length ≤ 6
  co : ∀ x ∈ co, CnFit (valsO ks cs) x
theorem mem_vals {ks : List Kd} {cs : List Cd} {v : Vl} (h : v ∈ valsO ks cs) : ∃ c ∈ cs, v.cn = c.nm ∧ ∃ f ∈ (lkK c.kn ks).getD [], v.fn = f.1 ∧ v.sz = f.2 := by
  obtain ⟨c, hc, h⟩ := List.mem_flatMap.mp h
  obtain ⟨f, hf, rfl⟩ := List.mem_map.mp h
  exact ⟨c, hc, rfl, f, hf, rfl, rfl⟩
theorem nodup_inj {α β : Type} {f : α → β} : ∀ {xs : List α}, (xs.map f).Nodup → ∀ a ∈ xs, ∀ b ∈ xs, f a = f b → a = b
  | [], _, _, h, _, _, _ => by cases h
  | x :: xs, nd, a, ha, b, hb, e => by
    rw [List.map_cons, List.nodup_cons] at nd
    rcases List.mem_cons.mp ha with ea | ha2
    · rcases List.mem_cons.mp hb with eb | hb2
      · rw [ea, eb]
      · exact absurd (show f x ∈ xs.map f from List.mem_map.mpr ⟨b, hb2, by rw [← e, ea]⟩) nd.1
    · rcases List.mem_cons.mp hb with eb | hb2
      · exact absurd (show f x ∈ xs.map f from List.mem_map.mpr ⟨a, ha2, by rw [e, eb]⟩) nd.1
      · exact nodup_inj nd.2 a ha2 b hb2 e
theorem lts_ok : ltS.cps.toList.all (fun c => decide (c < 1114112) && decide (c ≠ 32)) = true := by decide +kernel
theorem nm_sgn {x : Str} (h : isNm x = true) : ∀ c ∈ x.cps.toList, c < 1114112 ∧ c ≠ 32 := fun c hc => by
  unfold isNm at h
  rw [Bool.and_eq_true] at h
  have m := of_decide_eq_true (List.all_eq_true.mp h.2 c hc)
  have := List.all_eq_true.mp lts_ok c m
  rw [Bool.and_eq_true] at this
  exact ⟨of_decide_eq_true this.1, of_decide_eq_true this.2⟩
theorem strOk_nm {x : Str} (h : isNm x = true) : PyData.strOk x = true := by
  show x.cps.all (fun c => decide (c < 1114112)) = true
  rw [← Array.all_toList]
  exact List.all_eq_true.mpr fun c hc => decide_eq_true (nm_sgn h c hc).1
theorem vals_ok {ks : List Kd} {cs : List Cd} (kok : KsA ks) (l3 : cs.length ≤ 3) (nd : (cs.map (·.nm)).Nodup) (cd : ∀ c ∈ cs, CdA ks c) : VsOk (valsO ks cs) ∧ ∀ v ∈ valsO ks cs, 1 ≤ v.sz ∧ v.sz ≤ 16 ∧ isNm v.cn = true ∧ isNm v.fn = true := by
  have hf : ∀ c ∈ cs, ∃ k ∈ ks, c.kn = k.1 ∧ (lkK c.kn ks).getD [] = k.2 := fun c hc => by
    obtain ⟨k, mk, ek⟩ := List.mem_map.mp (cd c hc).kn
    exact ⟨k, mk, ek.symm, by rw [← ek, lkK_nd kok.nd mk]; rfl⟩
  have al : ∀ v ∈ valsO ks cs, 1 ≤ v.sz ∧ v.sz ≤ 16 ∧ isNm v.cn = true ∧ isNm v.fn = true := fun v hv => by
    obtain ⟨c, hc, e1, f, mf, e2, e3⟩ := mem_vals hv
    obtain ⟨k, mk, _, ek⟩ := hf c hc
    rw [ek] at mf
    obtain ⟨a, b, d⟩ := (kok.f4 k mk).2.2 f mf
    rw [e1, e2, e3]
    exact ⟨b, d, (cd c hc).nm, a⟩
  refine ⟨⟨?_, fun u hu v hv e1 e2 => ?_, fun v hv => ?_, fun v hv => ?_⟩, al⟩
  · refine Nat.le_trans (fm_len (m := 4) fun c hc => ?_) (by omega)
    obtain ⟨k, mk, _, ek⟩ := hf c hc
    unfold valsC
    rw [ek, List.length_map]
    exact (kok.f4 k mk).1
  · obtain ⟨c, hc, a1, f, mf, a2, a3⟩ := mem_vals hu
    obtain ⟨d, hd, b1, g, mg, b2, b3⟩ := mem_vals hv
    have ecd : c = d := nodup_inj nd c hc d hd (by rw [← a1, ← b1]; exact e1)
    subst ecd
    obtain ⟨k, mk, _, ek⟩ := hf c hc
    rw [ek] at mf mg
    have efg : f = g := nodup_inj (kok.f4 k mk).2.1 f mf g mg (by rw [← a2, ← b2]; exact e2)
    subst efg
    obtain ⟨u1, u2, u3⟩ := u
    obtain ⟨v1, v2, v3⟩ := v
    simp only at a1 a2 a3 b1 b2 b3
    rw [a1, a2, a3, b1, b2, b3]
  · have := al v hv
    omega
  · have := al v hv
    exact ⟨strOk_nm this.2.2.1, strOk_nm this.2.2.2⟩
section
variable {P : Program} {w : World} {K : PySem.W.Frag} {mg : Str → Option Value} {base : Heap} {ca : Nat → Addr} {gKW gCW : Addr}
theorem two_sh {c d X R : Prop} [Decidable c] [Decidable d] (r : R) (h : c → d → X) : two (decide c) (two (decide d) X R) R := twoD (fun e => twoD (fun f => h e f) (fun _ => r)) (fun _ => r)
theorem lcA_sub {α : Type} {f : α → Dat} {el : Dat → (Option Dat → Prop) → Prop} {P : List Dat → Prop} (g : α → Dat) : ∀ {xs : List α} {acc : List Dat}, (∀ x ∈ xs, ∀ Q : Option Dat → Prop, Q (some (g x)) → Q none → el (f x) Q) → (∀ ys : List α, ys.Sublist xs → P (acc ++ ys.map g)) → lcA el P (xs.map f) acc
  | [], acc, _, k => by
    have := k [] (.slnil)
    rw [List.map_nil, List.append_nil] at this
    exact this
  | x :: xs, acc, h, k => by
    rw [List.map_cons]
    refine h x List.mem_cons_self _ ?_ ?_
    · refine lcA_sub g (fun y hy => h y (List.mem_cons_of_mem _ hy)) fun ys hs => ?_
      rw [List.append_assoc]
      exact k (x :: ys) (hs.cons₂ x)
    · exact lcA_sub g (fun y hy => h y (List.mem_cons_of_mem _ hy)) fun ys hs => k ys (hs.cons x)
def aspLPol : ASp := fun ds P => ∃ ks, ds = [.pool, .lst (ks.map kdT)] ∧ KsA ks ∧ ∀ cs co, PolA ks cs co → P (.tup [.tup (cs.map cdD), .tup (co.map cndD)])
theorem ok_law_policy {f : Addr} {fd : FuncData} (F : Fun K "_law_policy" "_law_policy" s__law_policy f fd) (B : Blt mg) (C__law_draw : C8.Cal P w K mg base 1 "_law_draw" (toSp K ca aspDraw) []) (C__law_unlike : C8.Cal P w K mg base 3 "_law_unlike" (toSp K ca aspLUnl) []) (C__law_pairs : C8.Cal P w K mg base 1 "_law_pairs" (toSp K ca aspLPrs) []) : FnOk P w K mg base CX0 4 f fd ["pool", "kinds"] (toSp K ca aspLPol) := by
  refine F.ok sc__law_policy (fun vs H Q E h => sp_len (n := 2) (fun ds P a => by obtain ⟨_, rfl, _⟩ := a; rfl) h) (fun cdv A outer s H vs Q E hr h => ⟨_, (pss_cons (ps_set (i := 2) sc__law_policy.nd rfl (.inl rfl) (pe_lst pa_nil))
      (pss_cons (ps_for PassesOwn.never rfl (kpil (K := K) rfl (C8.pe_c C__law_unlike hr (by omega) rfl (pa_cons (pv 0) (pa_cons (pe_op op_add pe_int (C8.pe_c C__law_draw hr (by omega) rfl (pa_cons (pv 0) (pa_cons pe_int pa_nil)))) pa_nil)))) (pg_name (i := 3) sc__law_policy.nd rfl (.inl rfl))
      (pss_cons (ps_set (i := 4) sc__law_policy.nd rfl (.inl rfl) (pe_ix (kixs (K := K) rfl) (pe_ix (kixs (K := K) rfl) (pv 1) (C8.pe_c C__law_draw hr (by omega) rfl (pa_cons (pv 0) (pa_cons (pe_callB (klen (K := K) rfl) (by rfl) B.len bt_len (pa_cons (pv 1) pa_nil)) pa_nil))) (fun _ _ => rfl)) pe_int (fun _ _ => rfl)))
      (pss_one (ps_expr (pe_bm PySem.F.plainAttrs_list PySem.F.slot_list_append PySem.F.type_list_append mt_append (pv 2) (pa_cons (pe_tupF (pa_cons (pv 3) (pa_cons (pv 4) (pa_cons (pe_callTy (ktupF (K := K) rfl) (by rfl) B.tuple bt_tuple (pa_cons (C8.pe_c C__law_unlike hr (by omega) rfl (pa_cons (pv 0) (pa_cons (pe_op op_add pe_int (C8.pe_c C__law_draw hr (by omega) rfl (pa_cons (pv 0) (pa_cons pe_int pa_nil)))) pa_nil))) pa_nil)) pa_nil)))) pa_nil))))))
      (pss_cons (ps_set (i := 5) sc__law_policy.nd rfl (.inl rfl) (pe_lst pa_nil))
      (pss_cons (ps_set (i := 6) sc__law_policy.nd rfl (.inl rfl) (C8.pe_c C__law_pairs hr (by omega) rfl (pa_cons (pv 1) (pa_cons (pv 2) pa_nil))))
      (pss_cons (ps_for PassesOwn.never rfl (pi_range1 rfl B.range (pa_cons (C8.pe_c C__law_draw hr (by omega) rfl (pa_cons (pv 0) (pa_cons pe_int pa_nil))) pa_nil)) (pg_name (i := 7) sc__law_policy.nd rfl (.inl rfl))
      (pss_one (ps_if (pt_cmpR op_gt (pe_callB (klen (K := K) rfl) (by rfl) B.len bt_len (pa_cons (pv 6) pa_nil)) pe_int (nomark _)) (pss_cons (ps_asg (pe_ix (kixs (K := K) rfl) (pv 6) (C8.pe_c C__law_draw hr (by omega) rfl (pa_cons (pv 0) (pa_cons (pe_callB (klen (K := K) rfl) (by rfl) B.len bt_len (pa_cons (pv 6) pa_nil)) pa_nil))) (fun _ _ => rfl)) (kgtup (K := K) (n := 2) rfl rfl (pgs_cons (pg_name (i := 8) sc__law_policy.nd rfl (.inr rfl)) (pgs_cons (pg_name (i := 9) sc__law_policy.nd rfl (.inl rfl)) pgs_nil))))
      (pss_cons (ps_set (i := 10) sc__law_policy.nd rfl (.inl rfl) (C8.pe_c C__law_draw hr (by omega) rfl (pa_cons (pv 0) (pa_cons pe_int pa_nil))))
      (pss_cons (ps_setLc (i := 11) (own := [("other", 13), ("more", 14)]) rfl sc__law_policy.nd rfl rfl (sw_true rfl rfl rfl (by decide +kernel)) (kpil (K := K) rfl (pv 6)) (blkOk_by (N := ["pool", "kinds", "cards", "name", "kind", "conditions", "pairs", "k", "pair", "size", "way", "others", "numbers", "other", "more", "number"]) (sc := defScope s__law_policy) (by decide +kernel))
        (fun _ _ _ _ _ => (kgtup (K := K) (n := 2) rfl rfl (pgs_cons (pg_name (i := 13) sc__law_policy.nd rfl (.inl rfl)) (pgs_cons (pg_name (i := 14) sc__law_policy.nd rfl (.inl rfl)) pgs_nil)))) (fun _ _ _ _ _ => pts_one (pt_cmpR (kned (K := K) rfl hr.units) (pv 13) (pv 8) (nomark _)))
        (fun _ _ _ _ _ => (pv 13)))
      (pss_one (ps_if (PW.pt (pw_and (pt_cmpR op_eq (pv 10) pe_int (nomark _)) (pw_and1 (pt_cmpR op_gt (pe_callB (klen (K := K) rfl) (by rfl) B.len bt_len (pa_cons (pv 11) pa_nil)) pe_int (nomark _))))) (pss_one (ps_expr (pe_bm PySem.F.plainAttrs_list PySem.F.slot_list_append PySem.F.type_list_append mt_append (pv 5) (pa_cons (pe_op (kcatF (K := K) rfl) (pe_op (kcatF (K := K) rfl) (pe_tupF (pa_cons pe_str pa_nil)) (pv 8)) (pe_ix (kixs (K := K) rfl) (pv 11) (C8.pe_c C__law_draw hr (by omega) rfl (pa_cons (pv 0) (pa_cons (pe_callB (klen (K := K) rfl) (by rfl) B.len bt_len (pa_cons (pv 11) pa_nil)) pa_nil))) (fun _ _ => rfl))) pa_nil)))) (pss_one (ps_if (pt_cmpR op_eq (pv 10) pe_int (nomark _)) (pss_cons (ps_setLc (i := 12) (own := [("number", 15)]) (g := gName 15) rfl sc__law_policy.nd rfl rfl (sw_true rfl rfl rfl (by decide +kernel)) (pi_range1 rfl B.range (pa_cons (pv 9) pa_nil)) (blkOk_by (N := ["pool", "kinds", "cards", "name", "kind", "conditions", "pairs", "k", "pair", "size", "way", "others", "numbers", "other", "more", "number"]) (sc := defScope s__law_policy) (by decide +kernel))
        (fun _ _ _ _ _ => (pg_name (i := 15) sc__law_policy.nd rfl (.inl rfl))) (fun _ _ _ _ _ => pts_one (pt_cmpR op_eq (C8.pe_c C__law_draw hr (by omega) rfl (pa_cons (pv 0) (pa_cons pe_int pa_nil))) pe_int (nomark _)))
        (fun _ _ _ _ _ => (pv 15)))
      (pss_cons (ps_set (i := 12) sc__law_policy.nd rfl (.inl rfl) (pe_op op_cat (pv 12) (pe_op op_rep (pe_lst (pa_cons (pe_op op_sub (pv 9) pe_int) pa_nil)) (pe_callTy call_int1 (by rfl) B.int bt_int (pa_cons (pe_cmpR op_eq (pe_callB (klen (K := K) rfl) (by rfl) B.len bt_len (pa_cons (pv 12) pa_nil)) pe_int (nomark _)) pa_nil)))))
      (pss_one (ps_expr (pe_bm PySem.F.plainAttrs_list PySem.F.slot_list_append PySem.F.type_list_append mt_append (pv 5) (pa_cons (pe_op (kcatF (K := K) rfl) (pe_op (kcatF (K := K) rfl) (pe_tupF (pa_cons pe_str pa_nil)) (pv 8)) (pe_tupF (pa_cons (pe_callTy (ktupF (K := K) rfl) (by rfl) B.tuple bt_tuple (pa_cons (pv 12) pa_nil)) pa_nil))) pa_nil)))))) (pss_one (ps_if (pt_cmpR op_gt (pv 10) pe_int (nomark _)) (pss_one (ps_expr (pe_bm PySem.F.plainAttrs_list PySem.F.slot_list_append PySem.F.type_list_append mt_append (pv 5) (pa_cons (pe_op (kcatF (K := K) rfl) (pe_op (kcatF (K := K) rfl) (pe_tupF (pa_cons (pe_ix (kixs (K := K) rfl) (pe_tupF (pa_cons pe_str (pa_cons pe_str pa_nil))) (pe_op op_mod (pv 10) pe_int) (fun _ _ => rfl)) pa_nil)) (pv 8)) (pe_tupF (pa_cons (C8.pe_c C__law_draw hr (by omega) rfl (pa_cons (pv 0) (pa_cons (pv 9) pa_nil))) pa_nil))) pa_nil)))) (pss_one (ps_expr (pe_bm PySem.F.plainAttrs_list PySem.F.slot_list_append PySem.F.type_list_append mt_append (pv 5) (pa_cons (pe_op (kcatF (K := K) rfl) (pe_tupF (pa_cons pe_str pa_nil)) (pv 8)) pa_nil))))))))))))) pss_nil)))
      (pss_one (ps_ret (pe_tupF (pa_cons (pe_callTy (ktupF (K := K) rfl) (by rfl) B.tuple bt_tuple (pa_cons (pv 2) pa_nil)) (pa_cons (pe_callTy (ktupF (K := K) rfl) (by rfl) B.tuple bt_tuple (pa_cons (pv 5) pa_nil)) pa_nil)))))))))),
    fn_run h (fun po => (s_seq (s_setO fun _ => (a_lst a_nil))
      (s_seq (s_for (vs := [3]) (fun _ => (i_list (a_call (a_cons a_var (a_cons (a_op pst_rv rok_I0 a_int (a_call (a_cons a_var (a_cons a_int a_nil)))) a_nil))))) (fun _ => (g_name (by decide)))
      (s_seq (s_set fun _ => (a_op pst_pk rok_ix (a_pk (a_op pst_pk rok_ix (a_pk a_var) (a_call (a_cons a_var (a_cons (a_b1 u_len (a_pk a_var)) a_nil))))) a_int))
      (s_app fun _ => (a_tup (a_cons a_var (a_cons a_var (a_cons (a_b1 u_tupOf (a_pk (a_call (a_cons a_var (a_cons (a_op pst_rv rok_I0 a_int (a_call (a_cons a_var (a_cons a_int a_nil)))) a_nil))))) a_nil)))))))
      (s_seq (s_setO fun _ => (a_lst a_nil))
      (s_fz (i := 2) (s_seq (s_set fun _ => (a_call (a_cons a_var (a_cons a_var a_nil))))
      (s_seq (s_for (vs := [7]) (fun _ => (i_ran1 (a_cons (a_call (a_cons a_var (a_cons a_int a_nil))) a_nil))) (fun _ => (g_name (by decide)))
      (s_if (fun _ => (a_test (a_op pst_rv rok_B0 (a_b1 u_len (a_pk a_var)) a_int))) (s_seq (s_asg (vs := [8, 9]) (fun _ => (a_op pst_pk rok_ix (a_pk a_var) (a_call (a_cons a_var (a_cons (a_b1 u_len (a_pk a_var)) a_nil))))) (fun _ => (g_tup (g_cons (g_name (by decide)) (g_cons (g_name (by decide)) g_nil tot_name) tot_name))))
      (s_seq (s_set fun _ => (a_call (a_cons a_var (a_cons a_int a_nil))))
      (s_seq (s_set fun _ => (a_fz (a_lc (vs := [13, 14]) (i_list a_var) (g_tup (g_cons (g_name (by decide)) (g_cons (g_name (by decide)) g_nil tot_name) tot_name)) (a_test (a_op pst_pk rok_neD (a_pk a_var) (a_pk a_var))) a_var)))
      (s_if (fun _ => (a_and (a_test (a_op pst_rv rok_eq a_var a_int)) (a_test (a_op pst_rv rok_B0 (a_b1 u_len (a_pk a_var)) a_int)))) (s_app fun _ => (a_op pst_rv rok_catT (a_op pst_rv rok_catT (a_tup (a_cons a_str a_nil)) a_var) (a_op pst_pk rok_ix (a_pk a_var) (a_call (a_cons a_var (a_cons (a_b1 u_len (a_pk a_var)) a_nil)))))) (s_if (fun _ => (a_test (a_op pst_rv rok_eq a_var a_int))) (s_seq (s_set fun _ => (a_fz (a_lc (vs := [15]) (i_ran1 (a_cons a_var a_nil)) (g_name (by decide)) (a_test (a_op pst_rv rok_eq (a_call (a_cons a_var (a_cons a_int a_nil))) a_int)) a_var)))
      (s_seq (s_set fun _ => (a_fz (a_opF pst_pk rok_catL (a_pk a_var) (a_pk (a_fz (a_opF pst_pk rok_repL (a_pk (a_fz (a_lst (a_cons (a_op pst_rv rok_I0 a_var a_int) a_nil)))) (a_b1 u_int (a_op pst_rv rok_eq (a_b1 u_len (a_pk a_var)) a_int))))))))
      (s_app fun _ => (a_op pst_rv rok_catT (a_op pst_rv rok_catT (a_tup (a_cons a_str a_nil)) a_var) (a_tup (a_cons (a_b1 u_tupOf (a_pk a_var)) a_nil)))))) (s_if (fun _ => (a_test (a_op pst_rv rok_B0 a_var a_int))) (s_app fun _ => (a_op pst_rv rok_catT (a_op pst_rv rok_catT (a_tup (a_cons (a_op pst_pk rok_ix (a_pk (a_tup (a_cons a_str (a_cons a_str a_nil)))) (a_op pst_rv rok_I a_var a_int)) a_nil)) a_var) (a_tup (a_cons (a_call (a_cons a_var (a_cons a_var a_nil))) a_nil)))) (s_app fun _ => (a_op pst_rv rok_catT (a_tup (a_cons a_str a_nil)) a_var)))))))) s_next))
      (s_ret fun _ => (a_tup (a_cons (a_b1 u_tupOf (a_pk a_var)) (a_cons (a_b1 u_tupOf a_peek) a_nil))))))))))) (fun ds P a => by obtain ⟨_, rfl, _⟩ := a; exact Nat.le_of_ble_eq_true rfl) ?_⟩)
  rintro ds P ⟨ks, rfl, kok, hp⟩
  have l8 := kok.l8
  have l1 := kok.l1
  refine seqG fun N hN => ?_
  walk_at "dw"
  subst hN
  refine seqG fun N hN => ?_
  walk_at "dw"
  refine draw (by omega) (by omega) fun m m0 m1 => ?_
  walk_at "dw"
  obtain ⟨n, hn⟩ : ∃ n : Nat, 1 + m = n := ⟨(1 + m).toNat, by omega⟩
  rw [hn]
  refine ⟨n, rfl, by omega, fun xs lx nd al => ?_⟩
  walk_at "dw"
  have hSt : ∃ W : List Str → List Sl → Prop, ∀ ys env, W ys env ↔ ∃ (cs : List Cd) (t3 t4 t5 t6 t7 t8 t9 t10 t11 t12 t13 t14 t15 : Sl), env = [Sl.d .pool, Sl.d (.lst (ks.map kdT)), Sl.o (cs.map cdD), t3, t4, t5, t6, t7, t8, t9, t10, t11, t12, t13, t14, t15] ∧ cs.map (·.nm) ++ ys = xs ∧ ∀ c ∈ cs, CdA ks c := ⟨_, fun _ _ => Iff.rfl⟩
  obtain ⟨W, hW⟩ := hSt
  refine forA_suf (f := Dat.str) W ?_ ?_ xs _ ((hW _ _).mpr ⟨[], _, _, _, _, _, _, _, _, _, _, _, _, _, rfl, rfl, fun x h => by cases h⟩)
  · intro x ys env w N2 hN2
    obtain ⟨cs, t3, t4, t5, t6, t7, t8, t9, t10, t11, t12, t13, t14, t15, rfl, ecs, cd⟩ := (hW _ _).mp w
    clear w
    have mx : x ∈ xs := by rw [← ecs]; exact List.mem_append.mpr (.inr List.mem_cons_self)
    have lcs : cs.length ≤ 3 := by
      have := congrArg List.length ecs
      rw [List.length_append, List.length_map] at this
      omega
    refine seqG fun N3 hN3 => ?_
    walk_at "dw"
    rw [List.length_map]
    refine draw (by omega) (by omega) fun kz k0 k1 => ?_
    obtain ⟨k, rfl⟩ := Int.eq_ofNat_of_zero_le k0
    have hk : ks[k]? = some (ks[k]'(by omega)) := List.getElem?_eq_getElem _
    have mk := List.mem_of_getElem? hk
    generalize ks[k]'(by omega) = kk at hk mk
    walk_at "dw"
    refine oa_at rfl hk ?_
    rw [show kdT kk = .tup [.str kk.1, .tup (kk.2.map fmD)] from rfl]
    walk_at "dw"
    subst hN3
    walk_at "dw"
    refine ⟨by rw [List.length_map]; omega, ?_⟩
    refine draw (by omega) (by omega) fun m m0 m1 => ?_
    walk_at "dw"
    obtain ⟨n2, hn2⟩ : ∃ n : Nat, 1 + m = n := ⟨(1 + m).toNat, by omega⟩
    rw [hn2]
    refine ⟨n2, rfl, by omega, fun is li ndi ali => ?_⟩
    walk_at "dw"
    have := hN2 [Sl.d .pool, Sl.d (.lst (ks.map kdT)), Sl.o ((cs ++ [(⟨x, kk.1, is⟩ : Cd)]).map cdD), Sl.d (.str x), Sl.d (.str kk.1), t5, t6, t7, t8, t9, t10, t11, t12, t13, t14, t15] ((hW _ _).mpr ⟨cs ++ [(⟨x, kk.1, is⟩ : Cd)], _, _, _, _, _, _, _, _, _, _, _, _, _, rfl, by rw [List.map_append, List.append_assoc]; exact ecs, fun c hc => ?_⟩)
    · rw [List.map_append] at this
      exact this
    · rcases List.mem_append.mp hc with hc | hc
      · exact cd c hc
      · obtain rfl := List.mem_singleton.mp hc
        exact ⟨al x mx, List.mem_map.mpr ⟨kk, mk, rfl⟩, by show 1 ≤ is.length; omega, by show is.length ≤ 3; omega, ndi, ali⟩
  intro env w
  obtain ⟨cs, t3, t4, t5, t6, t7, t8, t9, t10, t11, t12, t13, t14, t15, rfl, ecs, cd⟩ := (hW _ _).mp w
  clear w hW W
  rw [List.append_nil] at ecs
  have lcs : cs.length = n := by rw [← lx, ← ecs, List.length_map]
  have ndc : (cs.map (·.nm)).Nodup := by rw [ecs]; exact nd
  obtain ⟨vok, val⟩ := vals_ok kok (by omega) ndc cd
  have lvs := vok.ln
  show N _
  subst hN
  refine seqG fun N hN => ?_
  walk_at "dw"
  subst hN
  walk_at "dw"
  refine seqG fun N hN => ?_
  walk_at "dw"
  refine ⟨false, ks, cs, rfl, ⟨kok, by omega, fun c hc => (cd c hc).kn⟩, ?_⟩
  subst hN
  refine seqG fun N hN => ?_
  walk_at "dw"
  refine draw (by omega) (by omega) fun m2 m20 m21 => ?_
  walk_at "dw"
  refine ⟨by omega, by omega, ?_⟩
  have hpl : ∀ co : List Cnd, co.length ≤ 6 → (∀ x ∈ co, CnFit (valsO ks cs) x) → P (.tup [.tup (cs.map cdD), .tup (co.map cndD)]) := fun co l6 hco => hp cs co ⟨by omega, by omega, ndc, cd, l6, hco⟩
  clear hp lx nd al ecs ndc hn m0 m1
  generalize valsO ks cs = vs at vok val lvs hpl
  have hSt : ∃ W : Nat → List Sl → Prop, ∀ i env, W i env ↔ ∃ (co : List Cnd) (t3 t4 t7 t8 t9 t10 t11 t12 t13 t14 t15 : Sl), env = [Sl.d .pool, Sl.d (.lst (ks.map kdT)), Sl.d (.lst (cs.map cdD)), t3, t4, Sl.o (co.map cndD), Sl.d (.lst (vs.map prV)), t7, t8, t9, t10, t11, t12, t13, t14, t15] ∧ co.length ≤ i ∧ ∀ x ∈ co, CnFit vs x := ⟨_, fun _ _ => Iff.rfl⟩
  obtain ⟨W, hW⟩ := hSt
  refine forA_ran W ((hW _ _).mpr ⟨[], _, _, _, _, _, _, _, _, _, _, _, rfl, Nat.le_refl _, fun x h => by cases h⟩) ?_ ?_
  · intro i env hi w N2 hN2
    obtain ⟨co, t3, t4, t7, t8, t9, t10, t11, t12, t13, t14, t15, rfl, lco, hco⟩ := (hW _ _).mp w
    clear w
    have go : ∀ (x : Cnd), CnFit vs x → ∀ t8 t9 t10 t11 t12 : Sl, N2 [Sl.d .pool, Sl.d (.lst (ks.map kdT)), Sl.d (.lst (cs.map cdD)), t3, t4, Sl.o (co.map cndD ++ [cndD x]), Sl.d (.lst (vs.map prV)), Sl.d (.int (0 + (i : Int))), t8, t9, t10, t11, t12, t13, t14, t15] := fun x hx t8 t9 t10 t11 t12 => by
      have := hN2 [Sl.d .pool, Sl.d (.lst (ks.map kdT)), Sl.d (.lst (cs.map cdD)), t3, t4, Sl.o ((co ++ [x]).map cndD), Sl.d (.lst (vs.map prV)), Sl.d (.int (0 + (i : Int))), t8, t9, t10, t11, t12, t13, t14, t15] ((hW _ _).mpr ⟨co ++ [x], _, _, _, _, _, _, _, _, _, _, _, rfl, by rw [List.length_append]; exact Nat.succ_le_succ lco, fun y hy => ?_⟩)
      · rw [List.map_append] at this
        exact this
      · rcases List.mem_append.mp hy with hy | hy
        · exact hco y hy
        · obtain rfl := List.mem_singleton.mp hy
          exact hx
    have stay := hN2 [Sl.d .pool, Sl.d (.lst (ks.map kdT)), Sl.d (.lst (cs.map cdD)), t3, t4, Sl.o (co.map cndD), Sl.d (.lst (vs.map prV)), Sl.d (.int (0 + (i : Int))), t8, t9, t10, t11, t12, t13, t14, t15] ((hW _ _).mpr ⟨co, _, _, _, _, _, _, _, _, _, _, _, rfl, Nat.le_succ_of_le lco, hco⟩)
    clear hN2 hW W
    walk_at "dw"
    rw [List.length_map]
    refine twoD (fun e => ?_) (fun _ => stay)
    refine seqG fun N3 hN3 => ?_
    walk_at "dw"
    rw [List.length_map]
    refine draw (by omega) (by omega) fun jz j0 j1 => ?_
    obtain ⟨j, rfl⟩ := Int.eq_ofNat_of_zero_le j0
    have hv : vs[j]? = some (vs[j]'(by omega)) := List.getElem?_eq_getElem _
    have mv := List.mem_of_getElem? hv
    generalize vs[j]'(by omega) = v at hv mv
    have szv := val v mv
    walk_at "dw"
    refine oa_at rfl hv ?_
    rw [show prV v = .tup [.tup [.str v.cn, .str v.fn], .int v.sz] from rfl]
    walk_at "dw"
    subst hN3
    refine seqG fun N3 hN3 => ?_
    walk_at "dw"
    refine draw (by omega) (by omega) fun way w0 w5 => ?_
    subst hN3
    refine seqG fun N3 hN3 => ?_
    walk_at "dw"
    refine ⟨by rw [List.length_map]; omega, ?_⟩
    refine lcA_filL (g := fun u : Vl => Dat.tup [.str u.cn, .str u.fn]) (fun u => !decide (u.cn = v.cn ∧ u.fn = v.fn)) (fun u hu Q q1 q2 => ?_) ?_
    · rw [show prV u = .tup [.tup [.str u.cn, .str u.fn], .int u.sz] from rfl]
      walk_at "dw"
      refine ⟨(okE_tup (n := 63) (okE_two (okE_str (vok.so u hu).1 _) (okE_str (vok.so u hu).2 _))), (okE_tup (n := 63) (okE_two (okE_str (vok.so v mv).1 _) (okE_str (vok.so v mv).2 _))), fun b hb => ?_⟩
      have e : b = decide (u.cn = v.cn ∧ u.fn = v.fn) := by
        rw [Bool.eq_iff_iff, hb, decide_eq_true_eq, Dat.tup.injEq, List.cons.injEq, List.cons.injEq, Dat.str.injEq, Dat.str.injEq]
        exact ⟨fun z => ⟨z.1, z.2.1⟩, fun z => ⟨z.1, z.2, rfl⟩⟩
      subst e
      walk_at "dw"
      exact twoN (fun e => q1 (by rw [decide_eq_false e]; rfl)) (fun e => q2 (by rw [decide_eq_true e]; rfl))
    have lo : (vs.filter fun u => !decide (u.cn = v.cn ∧ u.fn = v.fn)).length ≤ vs.length := List.length_filter_le _ _
    have mo : ∀ u ∈ vs.filter (fun u => !decide (u.cn = v.cn ∧ u.fn = v.fn)), u ∈ vs ∧ u ≠ v := fun u hu => by
      obtain ⟨h1, h2⟩ := List.mem_filter.mp hu
      refine ⟨h1, fun z => ?_⟩
      subst z
      rw [decide_eq_true ⟨rfl, rfl⟩] at h2
      cases h2
    generalize vs.filter (fun u => !decide (u.cn = v.cn ∧ u.fn = v.fn)) = os at lo mo
    subst hN3
    walk_at "dw"
    rw [List.length_map]
    have lc2 : (co.map cndD).length < 100000 := by rw [List.length_map]; omega
    refine two_sh ?_ (fun _ eo => ⟨lc2, by omega, ?_⟩)
    · refine twoD (fun _ => ?_) (fun _ => ?_)
      · refine seqG fun N4 hN4 => ?_
        walk_at "dw"
        refine ⟨by omega, by omega, by rw [List.length_map, List.length_range]; omega, ?_⟩
        refine lcA_sub (g := fun i : Nat => Dat.int (0 + (i : Int))) (fun i hi Q q1 q2 => ?_) fun ns hs => ?_
        · walk_at "dw"
          refine draw (by omega) (by omega) fun z _ _ => ?_
          walk_at "dw"
          exact twoD (fun _ => q1) (fun _ => q2)
        rw [List.nil_append]
        have hns : ∀ i ∈ ns, (0 : Int) ≤ 0 + (i : Int) ∧ 0 + (i : Int) < v.sz := fun i hi => by
          have := List.mem_range.mp (hs.subset hi)
          omega
        have hpw : (ns.map fun i : Nat => 0 + (i : Int)).Pairwise (· < ·) := by
          have h1 : ns.Pairwise (· < ·) := List.Pairwise.sublist hs List.pairwise_lt_range
          rw [List.pairwise_map]
          exact h1.imp fun h => by omega
        have lns : ns.length ≤ 16 := by
          have := hs.length_le
          rw [List.length_range] at this
          omega
        subst hN4
        refine seqG fun N4 hN4 => ?_
        walk_at "dw"
        rw [List.length_map]
        have fin : ∀ ms : List Int, ms ≠ [] → (∀ m ∈ ms, 0 ≤ m ∧ m < v.sz) → ms.Pairwise (· < ·) → ∀ t12 : Sl, N2 [Sl.d .pool, Sl.d (.lst (ks.map kdT)), Sl.d (.lst (cs.map cdD)), t3, t4, Sl.o (co.map cndD ++ [cndD (.among v.cn v.fn ms)]), Sl.d (.lst (vs.map prV)), Sl.d (.int (0 + (i : Int))), Sl.d (.tup [.str v.cn, .str v.fn]), Sl.d (.int v.sz), Sl.d (.int way), Sl.d (.lst (os.map fun u => .tup [.str u.cn, .str u.fn])), t12, t13, t14, t15] := fun ms h1 h2 h3 t12 => go _ (.among v mv ms h1 h2 h3) _ _ _ _ _
        have close : ∀ ms : List Int, ms.length ≤ 16 → ms ≠ [] → (∀ m ∈ ms, 0 ≤ m ∧ m < v.sz) → ms.Pairwise (· < ·) → N4 [Sl.d .pool, Sl.d (.lst (ks.map kdT)), Sl.d (.lst (cs.map cdD)), t3, t4, Sl.o (co.map cndD), Sl.d (.lst (vs.map prV)), Sl.d (.int (0 + (i : Int))), Sl.d (.tup [.str v.cn, .str v.fn]), Sl.d (.int v.sz), Sl.d (.int way), Sl.d (.lst (os.map fun u => .tup [.str u.cn, .str u.fn])), Sl.d (.lst (ms.map .int)), t13, t14, t15] := fun ms l h1 h2 h3 => by
          subst hN4
          walk_at "dw"
          exact ⟨lc2, by omega, by omega, fin ms h1 h2 h3 _⟩
        cases ns with
        | nil =>
          rw [show (if decide ((([] : List Nat).length : Int) = 0) = true then (1 : Int) else 0) = 1 from rfl]
          refine (show (0 : Int) ≤ 1 ∧ (1 : Int) ≤ 1000 ∧ 1 * (1 : Int).toNat ≤ 100000 ∧ _ from ⟨by omega, by omega, by omega, ?_⟩)
          exact ⟨by show 0 + 1 ≤ 100000; omega, close [v.sz - 1] (by show 1 ≤ 16; omega) (fun z => nomatch z) (fun m hm => by obtain rfl := List.mem_singleton.mp hm; omega) (List.pairwise_singleton _ _)⟩
        | cons n0 nt =>
          rw [show (if decide (((n0 :: nt).length : Int) = 0) = true then (1 : Int) else 0) = 0 by rw [decide_eq_false (by rw [List.length_cons]; omega)]; rfl]
          refine (show (0 : Int) ≤ 0 ∧ (0 : Int) ≤ 1000 ∧ 1 * (0 : Int).toNat ≤ 100000 ∧ _ from ⟨by omega, by omega, by decide, ?_⟩)
          refine ⟨by show (n0 :: nt).length + 0 ≤ 100000; omega, ?_⟩
          have := close ((n0 :: nt).map fun i : Nat => 0 + (i : Int)) (by rw [List.length_map]; exact lns) (fun z => nomatch z) (fun m hm => by obtain ⟨i, hi, rfl⟩ := List.mem_map.mp hm; exact hns i hi) hpw
          rw [List.map_map] at this
          rw [show (List.replicate (0 : Int).toNat [Dat.int (v.sz - 1)]).flatten = [] from rfl, List.append_nil]
          exact this
      · refine twoD (fun e0 => ⟨lc2, by omega, ?_⟩) (fun _ => ⟨lc2, by omega, go (.tell v.cn v.fn) (.tell v mv) _ _ _ _ _⟩)
        have eqc : ∀ z : Int, 0 ≤ z → z < v.sz → N2 [Sl.d .pool, Sl.d (.lst (ks.map kdT)), Sl.d (.lst (cs.map cdD)), t3, t4, Sl.o (co.map cndD ++ [cndD (.equal v.cn v.fn z)]), Sl.d (.lst (vs.map prV)), Sl.d (.int (0 + (i : Int))), Sl.d (.tup [.str v.cn, .str v.fn]), Sl.d (.int v.sz), Sl.d (.int way), Sl.d (.lst (os.map fun u => .tup [.str u.cn, .str u.fn])), t12, t13, t14, t15] := fun z z0 z1 => go _ (.equal v mv z z0 z1) _ _ _ _ _
        have lsc : ∀ z : Int, 0 ≤ z → z < v.sz → N2 [Sl.d .pool, Sl.d (.lst (ks.map kdT)), Sl.d (.lst (cs.map cdD)), t3, t4, Sl.o (co.map cndD ++ [cndD (.least v.cn v.fn z)]), Sl.d (.lst (vs.map prV)), Sl.d (.int (0 + (i : Int))), Sl.d (.tup [.str v.cn, .str v.fn]), Sl.d (.int v.sz), Sl.d (.int way), Sl.d (.lst (os.map fun u => .tup [.str u.cn, .str u.fn])), t12, t13, t14, t15] := fun z z0 z1 => go _ (.least v mv z z0 z1) _ _ _ _ _
        by_cases e : way % 2 = 0
        · rw [e, atI_0]
          refine (show (3 : Nat) ≤ 100000 ∧ _ from ⟨by omega, draw (by omega) (by omega) fun z z0 z1 => ⟨by omega, eqc z z0 z1⟩⟩)
        · rw [show way % 2 = 1 by omega, atI_1]
          refine (show (3 : Nat) ≤ 100000 ∧ _ from ⟨by omega, draw (by omega) (by omega) fun z z0 z1 => ⟨by omega, lsc z z0 z1⟩⟩)
    · refine draw (by omega) (by omega) fun z z0 z1 => ?_
      rw [kIx_l]
      obtain ⟨zn, rfl⟩ := Int.eq_ofNat_of_zero_le z0
      have hu : os[zn]? = some (os[zn]'(by omega)) := List.getElem?_eq_getElem _
      have mu := List.mem_of_getElem? hu
      generalize os[zn]'(by omega) = u at hu mu
      refine oa_at rfl hu ?_
      refine ⟨?_, go (.same v.cn v.fn u.cn u.fn) (.same v u mv (mo u mu).1 (mo u mu).2) _ _ _ _ _⟩
      show 3 + 2 ≤ 100000
      omega
  · intro env w
    obtain ⟨co, t3, t4, t7, t8, t9, t10, t11, t12, t13, t14, t15, rfl, lco, hco⟩ := (hW _ _).mp w
    show N _
    subst hN
    walk_at "dw"
    exact hpl co (by omega) hco
end
inductive Stt where
  | start (cs : List Cd) (k : Nat)
  | name (cs : List Cd)
  | kind (cs : List Cd) (nm : Str)
  | frm (cs : List Cd) (nm kn : Str)
  | iss0 (cs : List Cd) (nm kn : Str)
  | iss (cs : List Cd) (c : Cd)
  | card (cs : List Cd) (k : Nat) (wd : Str) (wo : Option Vl)
  | fld (cs : List Cd) (k : Nat) (wd : Str) (wo : Option Vl) (cn : Str)
  | num (cs : List Cd) (k : Nat) (wd : Str) (v : Vl)
  | nums (cs : List Cd) (k : Nat) (v : Vl) (lo : Int)
/-- the number that a word writes -/
def numW (w : Str) : Int := (PySem.intText? w).getD 0
/-- the values but one -/
def valsX (ks : List Kd) (cs : List Cd) (wo : Option Vl) : List Vl := (valsO ks cs).filter fun v => !decide (wo = some v)
def stStart (ks : List Kd) (cs : List Cd) (k : Nat) (w : Str) : Option Stt :=
  if w = "card" ∧ k = 0 ∧ cs.length < 3 then some (.name cs)
  else if w ∈ cwS ∧ k ≤ 5 ∧ cs ≠ [] ∧ (if w = "same" then 1 else 0) < (valsO ks cs).length then some (.card cs (k + 1) w none) else none
def stFld (cs : List Cd) (k : Nat) (wd : Str) (wo : Option Vl) (v : Vl) : Stt :=
  if wd = "tell" ∨ wo ≠ none then .start cs k else if wd = "same" then .card cs k wd (some v) else .num cs k wd v
def step (ks : List Kd) (s : Stt) (w : Str) : Option Stt := match s with
  | .start cs k => stStart ks cs k w
  | .name cs => if isNm w = true ∧ w ∉ cs.map (·.nm) then some (.kind cs w) else none
  | .kind cs nm => if w ∈ ks.map (·.1) then some (.frm cs nm w) else none
  | .frm cs nm kn => if w = "from" then some (.iss0 cs nm kn) else none
  | .iss0 cs nm kn => if isNm w = true then some (.iss cs ⟨nm, kn, [w]⟩) else none
  | .iss cs c => if isNm w = true ∧ c.is.length < 3 then (if w ∈ c.is then none else some (.iss cs ⟨c.nm, c.kn, c.is ++ [w]⟩)) else stStart ks (cs ++ [c]) 0 w
  | .card cs k wd wo => if w ∈ (valsX ks cs wo).map (·.cn) then some (.fld cs k wd wo w) else none
  | .fld cs k wd wo cn => ((valsX ks cs wo).find? fun v => decide (v.cn = cn) && decide (v.fn = w)).map (stFld cs k wd wo)
  | .num cs k wd v => if w ∈ wrt 0 v.sz then some (if wd = "among" then .nums cs k v (numW w + 1) else .start cs k) else none
  | .nums cs k v lo => if w ∈ wrt 0 100 then (if w ∈ wrt lo v.sz then some (.nums cs k v (numW w + 1)) else none) else stStart ks cs k w
/-- nothing is open -/
def fnl : Stt → Bool
  | .start cs _ => !cs.isEmpty
  | .iss _ _ => true
  | .nums _ _ _ _ => true
  | _ => false
/-- after the first n words -/
inductive Rn (ks : List Kd) (ws : List Str) : Nat → Stt → Prop where
  | zero : Rn ks ws 0 (.start [] 0)
  | succ {n : Nat} {s s' : Stt} {w : Str} : Rn ks ws n s → ws[n]? = some w → step ks s w = some s' → Rn ks ws (n + 1) s'
/-- word n shows that there is no policy -/
def Stop (ks : List Kd) (ws : List Str) (n : Nat) : Prop := ∃ s, Rn ks ws n s ∧ match ws[n]? with
  | some w => step ks s w = none
  | none => fnl s = false
def wrongF (ks : List Kd) : Nat → Stt → List Str → Option Nat
  | n, s, [] => if fnl s then none else some n
  | n, s, w :: ws => match step ks s w with
    | none => some n
    | some s' => wrongF ks (n + 1) s' ws
def wrongO (ks : List Kd) (ws : List Str) : Option Nat := wrongF ks 0 (.start [] 0) ws
theorem Rn.wrong {ks : List Kd} {ws : List Str} {n : Nat} {s : Stt} (h : Rn ks ws n s) : wrongO ks ws = wrongF ks n s (ws.drop n) := by
  induction h with
  | zero => rfl
  | @succ n s s' w h hw hs ih =>
    rw [ih]
    obtain ⟨hl, e⟩ := List.getElem?_eq_some_iff.mp hw
    rw [List.drop_eq_getElem_cons hl, e]
    show (match step ks s w with | none => some n | some s' => wrongF ks (n + 1) s' (ws.drop (n + 1))) = _
    rw [hs]
theorem Stop.wrong {ks : List Kd} {ws : List Str} {n : Nat} (h : Stop ks ws n) : wrongO ks ws = some n := by
  obtain ⟨s, r, h⟩ := h
  rw [r.wrong]
  cases e : ws[n]? with
  | none =>
    rw [e] at h
    have h : fnl s = false := h
    rw [List.drop_eq_nil_of_le (List.getElem?_eq_none_iff.mp e)]
    show (if fnl s = true then none else some n) = _
    rw [h]
    rfl
  | some w =>
    rw [e] at h
    have h : step ks s w = none := h
    obtain ⟨hl, e⟩ := List.getElem?_eq_some_iff.mp e
    rw [List.drop_eq_getElem_cons hl, e]
    show (match step ks s w with | none => some n | some s' => wrongF ks (n + 1) s' (ws.drop (n + 1))) = _
    rw [h]
theorem Rn.right {ks : List Kd} {ws : List Str} {n : Nat} {s : Stt} (h : Rn ks ws n s) (e : ws[n]? = none) (f : fnl s = true) : wrongO ks ws = none := by
  rw [h.wrong, List.drop_eq_nil_of_le (List.getElem?_eq_none_iff.mp e)]
  show (if fnl s = true then none else some n) = _
  rw [f]
  rfl
/-- between the parts: what was read are these cards and so many conditions -/
def Bd (ks : List Kd) (ws : List Str) (n : Nat) (cs : List Cd) (k : Nat) : Prop := ∃ s, Rn ks ws n s ∧ fnl s = !cs.isEmpty ∧ ∀ w, ws[n]? = some w → step ks s w = stStart ks cs k w
theorem Bd.stop {ks : List Kd} {ws : List Str} {n k : Nat} {cs : List Cd} {w : Str} (h : Bd ks ws n cs k) (e : ws[n]? = some w) (q : stStart ks cs k w = none) : Stop ks ws n := by
  obtain ⟨s, r, _, h⟩ := h
  refine ⟨s, r, ?_⟩
  rw [e]
  exact (h w e).trans q
theorem Bd.to {ks : List Kd} {ws : List Str} {n k : Nat} {cs : List Cd} {w : Str} {s : Stt} (h : Bd ks ws n cs k) (e : ws[n]? = some w) (q : stStart ks cs k w = some s) : Rn ks ws (n + 1) s := by
  obtain ⟨s', r, _, h⟩ := h
  exact r.succ e ((h w e).trans q)
theorem Bd.start {ks : List Kd} {ws : List Str} {n k : Nat} {cs : List Cd} (r : Rn ks ws n (.start cs k)) : Bd ks ws n cs k := ⟨_, r, rfl, fun _ _ => rfl⟩
theorem Bd.iss {ks : List Kd} {ws : List Str} {n : Nat} {cs : List Cd} {c : Cd} (r : Rn ks ws n (.iss cs c)) (h : ∀ w, ws[n]? = some w → ¬ (isNm w = true ∧ c.is.length < 3)) : Bd ks ws n (cs ++ [c]) 0 := ⟨_, r, by cases cs <;> rfl, fun w e => if_neg (h w e)⟩
theorem Bd.nums {ks : List Kd} {ws : List Str} {n k : Nat} {cs : List Cd} {v : Vl} {lo : Int} (ne : cs ≠ []) (r : Rn ks ws n (.nums cs k v lo)) (h : ∀ w, ws[n]? = some w → w ∉ wrt 0 100) : Bd ks ws n cs k := ⟨_, r, by cases cs with
  | nil => exact absurd rfl ne
  | cons _ _ => rfl, fun w e => if_neg (h w e)⟩
theorem Rn.le {ks : List Kd} {ws : List Str} {n : Nat} {s : Stt} (h : Rn ks ws n s) : n ≤ ws.length := by
  induction h with
  | zero => exact Nat.zero_le _
  | succ _ e _ _ => exact (List.getElem?_eq_some_iff.mp e).1
theorem Rn.stop {ks : List Kd} {ws : List Str} {n : Nat} {s : Stt} (r : Rn ks ws n s) (hf : fnl s = false) (h : ∀ w, ws[n]? = some w → step ks s w = none) : Stop ks ws n := by
  refine ⟨s, r, ?_⟩
  cases e : ws[n]? with
  | none => exact hf
  | some w => exact h w e
section
variable {P : Program} {w : World} {K : PySem.W.Frag} {mg : Str → Option Value} {base : Heap} {ca : Nat → Addr} {gKW gCW : Addr}
/-- the reader moved on by k words -/
def Mv1 (M : Sto) (r : Addr) (ws : List Str) (n : Nat) : Sto := M.put r (some (.obj 15 [.lst (ws.map .str), .int n]))
theorem Mv1.at_ {M : Sto} {r : Addr} {ws : List Str} {n : Nat} : RdAt (Mv1 M r ws n) r ws n := Sto.put_s
theorem Mv1.mv {M : Sto} {r : Addr} {ws : List Str} {n : Nat} : Moved M (Mv1 M r ws n) r := Moved.put
def bspTakeX : BSp := fun ds M X P => ∃ (r : Addr) (t : Dat) (ws ys : List Str) (n : Nat), ds = [.cell r, t] ∧ RdAt M r ws n ∧ vwD 3 M t = .lst (ys.map .str) ∧ ws.length ≤ 1000 ∧ (∀ x, ws[n]? = some x → x ∈ ys → P (.str x) (Mv1 M r ws (n + 1))) ∧ ((∀ x, ws[n]? = some x → x ∉ ys) → ∀ M', X 14 [.int n] M')
theorem ok_takeX {f : Addr} {fd : FuncData} (F : Fun K "take" "Reader.take" s_Reader_take f fd) (T15 : RdT K (ca 15)) (B : Blt mg) (XM_BadText : XMk P w K mg base "BadText" (ca 14) "at") (M_ahead : C8.Met P w K mg base 1 (ca 15) "ahead" (toSp2 K ca bspAhead) []) : FnOk P w K mg base (L2.CX P w) 3 f fd ["self", "fitting"] (toSp2 K ca bspTakeX) := by
  refine F.okX sc_Reader_take (fun vs H Q E h => sp_len2 (n := 2) (fun ds M X P a => by obtain ⟨_, _, _, _, _, rfl, _⟩ := a; rfl) h) (fun cdv A outer s H vs Q E hr h => ⟨_, (pss_cons (ps_set (i := 2) sc_Reader_take.nd rfl (.inl rfl) (C8.pe_mt0 M_ahead hr (by omega) (pv 0)))
      (pss_cons (ps_if (pt_cmpR (knin (K := K) rfl) (pv 2) (pv 1) rfl) (pss_one (ps_raise rfl (takes_of rfl rfl rfl rfl) (pmk_x XM_BadText hr (by omega) rfl (pa_cons (kfld (K := K) rfl (pv 0)) pa_nil)))) pss_nil)
      (pss_cons (ps_fldaug (pv 0) pe_int in_add)
      (pss_one (ps_ret (pv 2)))))),
    fn_run2 h (fun po => (z_seq (z_set fun _ => (b_meth2 (c := 15) (by decide) (b_up fun _ => a_var) (b_upA fun _ => a_nil)))
      (z_seq (z_if (fun _ => (b_upVT 3 fun _ => (a_test (a_op pst_rv rok_inN a_var (a_pk a_var))))) (z_raiseO rfl (fun _ => (b_cons (b_upV 3 fun _ => (a_fld T15.cl T15.n_at (c := 15) (i := 1) rfl a_var)) b_nil))) z_next)
      (z_seq (z_augF (c := 15) (i := 1) T15.cl T15.n_at rfl (by decide) (by decide) (fun _ => (b_up fun _ => a_var)) (fun _ => (b_up fun _ => a_int)))
      (z_ret fun _ => (b_up fun _ => a_var)))))) (fun ds M X P a => by obtain ⟨_, _, _, _, _, rfl, _⟩ := a; exact Nat.le_of_ble_eq_true rfl) ?_⟩)
  rintro ds M X P ⟨r, t, ws, ys, n, rfl, hM, ht, lw, hp, hx⟩
  refine zseqG fun N hN => ?_
  walk_at "wq"
  rw [show M r = some (.obj 15 [.lst (ws.map .str), .int n]) from hM]
  refine ⟨rfl, r, ws, n, rfl, hM, lw, ?_⟩
  subst hN
  refine zseqG fun N hN => ?_
  cases e : ws[n]? with
  | none =>
    unfold optS
    walk_at "wq"
    rw [ht]
    refine kInN_n ?_
    walk_at "wq"
    rw [hM.vw]
    walk_at "wq"
    exact hx (fun x z => by rw [e] at z; cases z) _
  | some x =>
    unfold optS
    walk_at "wq"
    rw [ht]
    refine kInN_s ?_
    rw [if_pos rfl]
    by_cases hy : x ∈ ys
    · rw [decide_eq_true hy]
      walk_at "wq"
      subst hN
      refine zseqG fun N hN => ?_
      walk_at "wq"
      rw [show M r = some (.obj 15 [.lst (ws.map .str), .int n]) from hM]
      walk_at "wq"
      exact ⟨Nat.le_refl _, by subst hN; walk_at "wq"; exact hp x e hy⟩
    · rw [decide_eq_false hy]
      walk_at "wq"
      rw [hM.vw]
      walk_at "wq"
      exact hx (fun y z => by rw [e] at z; cases z; exact hy) _
def bspTakeNX : BSp := fun ds M X P => ∃ (r : Addr) (t : Dat) (ws ys : List Str) (n : Nat), ds = [.cell r, t] ∧ RdAt M r ws n ∧ vwD 3 M t = .lst (ys.map .str) ∧ (ws.length ≤ 1000 ∧ ∀ x ∈ ws, x.length ≤ 1000) ∧ (∀ x, ws[n]? = some x → isNm x = true → x ∉ ys → P (.str x) (Mv1 M r ws (n + 1))) ∧ ((∀ x, ws[n]? = some x → isNm x = true → x ∈ ys) → ∀ M', X 14 [.int n] M')
theorem ok_take_nameX {f : Addr} {fd : FuncData} (F : Fun K "take_name" "Reader.take_name" s_Reader_take_name f fd) (T15 : RdT K (ca 15)) (B : Blt mg) (M_ahead : C8.Met P w K mg base 1 (ca 15) "ahead" (toSp2 K ca bspAhead) []) (MX_take : MetX P w K mg base 3 (ca 15) "take" (toSp2 K ca bspTakeX)) (C__is_name : C8.Cal P w K mg base 1 "_is_name" (toSp K ca aspIsName) []) : FnOk P w K mg base (L2.CX P w) 4 f fd ["self", "taken"] (toSp2 K ca bspTakeNX) := by
  refine F.okX sc_Reader_take_name (fun vs H Q E h => sp_len2 (n := 2) (fun ds M X P a => by obtain ⟨_, _, _, _, _, rfl, _⟩ := a; rfl) h) (fun cdv A outer s H vs Q E hr h => ⟨_, (pss_cons (ps_set (i := 2) sc_Reader_take_name.nd rfl (.inl rfl) (C8.pe_mt0 M_ahead hr (by omega) (pv 0)))
      (pss_one (ps_ret (by exact (pe_mX MX_take (takes_of rfl rfl rfl rfl) hr (by omega) (pv 0) (pa_cons (pe_ifExp (PW.pt (pw_and (pt_val (C8.pe_c C__is_name hr (by omega) rfl (pa_cons (pv 2) pa_nil))) (pw_and1 (pt_cmpR (knin (K := K) rfl) (pv 2) (pv 1) rfl)))) (pe_lst (pa_cons (pv 2) pa_nil)) (pe_lst pa_nil)) pa_nil)))))),
    fn_run2 h (fun po => (z_seq (z_set fun _ => (b_meth2 (c := 15) (by decide) (b_up fun _ => a_var) (b_upA fun _ => a_nil)))
      (z_ret fun _ => (b_methX (c := 15) (by decide) (b_up fun _ => a_var) (b_cons (b_if (b_upVT 3 fun _ => (a_and (a_tb (a_call (a_cons a_var a_nil))) (a_test (a_op pst_rv rok_inN a_var (a_pk a_var))))) (b_up fun _ => (a_fz (a_lst (a_cons a_var a_nil)))) (b_up fun _ => (a_fz (a_lst a_nil)))) b_nil))))) (fun ds M X P a => by obtain ⟨_, _, _, _, _, rfl, _⟩ := a; exact Nat.le_of_ble_eq_true rfl) ?_⟩)
  rintro ds M X P ⟨r, t, ws, ys, n, rfl, hM, ht, ⟨lw, lx⟩, hp, hx⟩
  refine zseqG fun N hN => ?_
  walk_at "wq"
  rw [show M r = some (.obj 15 [.lst (ws.map .str), .int n]) from hM]
  refine ⟨rfl, r, ws, n, rfl, hM, lw, ?_⟩
  subst hN
  walk_at "wq"
  rw [show M r = some (.obj 15 [.lst (ws.map .str), .int n]) from hM]
  walk_at "wq"
  rw [show vwD 3 M (optS ws[n]?) = optS ws[n]? from by cases ws[n]? <;> rfl]
  refine ⟨ws[n]?, rfl, fun w e => lx w (List.mem_of_getElem? e), ?_⟩
  cases e : ws[n]? with
  | none =>
    rw [show nmO none = false from rfl]
    walk_at "wq"
    exact ⟨r, _, ws, [], n, rfl, hM, vw_l, lw, (fun x _ z => nomatch z), fun _ => hx (fun x z => by rw [e] at z; cases z)⟩
  | some x =>
    rw [show nmO (some x) = isNm x from rfl]
    cases hn : isNm x with
    | false =>
      walk_at "wq"
      exact ⟨r, _, ws, [], n, rfl, hM, vw_l, lw, (fun x _ z => nomatch z), fun _ => hx (fun y z h => by rw [e] at z; cases z; rw [hn] at h; cases h)⟩
    | true =>
      unfold optS
      walk_at "wq"
      rw [ht]
      refine kInN_s ?_
      rw [if_pos rfl]
      by_cases hy : x ∈ ys
      · rw [decide_eq_true hy]
        walk_at "wq"
        exact ⟨r, _, ws, [], n, rfl, hM, vw_l, lw, (fun x _ z => nomatch z), fun _ => hx (fun y z h => by rw [e] at z; cases z; exact hy)⟩
      · rw [decide_eq_false hy]
        walk_at "wq"
        exact ⟨r, _, ws, [x], n, rfl, hM, vw_l, lw, (fun y z _ => by rw [e] at z; cases z; exact hp x e hn hy), fun h => absurd (List.mem_singleton.mpr rfl) (h x e)⟩
end
theorem find_ff {α : Type} {p q : α → Bool} {xs : List α} : ((xs.filter p).filter q)[0]? = xs.find? fun x => p x && q x := by
  rw [List.filter_filter, ← List.head?_eq_getElem?, List.head?_filter]
  congr 1
  funext x
  exact Bool.and_comm _ _
theorem num_txt {j : Int} (h0 : 0 ≤ j) (h1 : j < 100) : numW (toString j) = j := by
  unfold numW
  rw [(txt_at h0 h1).1]
  rfl
theorem wrt_ex {lo hi : Int} {x : Str} (m : x ∈ wrt lo hi) : ∃ j : Int, lo ≤ j ∧ j < hi ∧ x = toString j := by
  unfold wrt at m
  obtain ⟨i, hi, rfl⟩ := List.mem_map.mp m
  have := List.mem_range.mp hi
  exact ⟨lo + (i : Int), by omega, by omega, rfl⟩
/-- what is open once a number was read -/
theorem st_num {ks : List Kd} {cs : List Cd} {k : Nat} {x : Str} (m : x ∈ wrt 0 100) : stStart ks cs k x = none := by
  have hc : kwS.all (fun y => !decide (y ∈ wrt 0 100)) = true := by decide +kernel
  have no : ∀ y ∈ kwS, y ≠ x := fun y hy e => by
    have := List.all_eq_true.mp hc y hy
    rw [e, decide_eq_true m] at this
    cases this
  unfold stStart
  rw [if_neg (fun z => no "card" (by decide) z.1.symm), if_neg (fun z => no x (cw_kw z.1).1 rfl)]
section
variable {P : Program} {w : World} {K : PySem.W.Frag} {mg : Str → Option Value} {base : Heap} {ca : Nat → Addr} {gKW gCW : Addr}
def bspRVX : BSp := fun ds M X P => ∃ (r : Addr) (ws : List Str) (n : Nat) (ks : List Kd) (cs : List Cd) (k : Nat) (wd : Str) (wo : Option Vl), ds = [.cell r, .lst ((valsX ks cs wo).map vlD)] ∧ RdAt M r ws n ∧ (ws.length ≤ 1000 ∧ (valsX ks cs wo).length ≤ 1000) ∧ Rn ks ws n (.card cs k wd wo) ∧ (∀ m : Nat, Stop ks ws m → ∀ M', X 14 [.int m] M') ∧ ∀ v ∈ valsX ks cs wo, ws[n]? = some v.cn → ws[n + 1]? = some v.fn → Rn ks ws (n + 2) (stFld cs k wd wo v) → P (vlD v) (Mv1 M r ws (n + 2))
theorem ok_read_valueX {f : Addr} {fd : FuncData} (F : Fun K "_read_value" "_read_value" s__read_value f fd) (B : Blt mg) (MX_take : MetX P w K mg base 3 (ca 15) "take" (toSp2 K ca bspTakeX)) : FnOk P w K mg base (L2.CX P w) 4 f fd ["reader", "values"] (toSp2 K ca bspRVX) := by
  refine F.okX sc__read_value (fun vs H Q E h => sp_len2 (n := 2) (fun ds M X P a => by obtain ⟨_, _, _, _, _, _, _, _, rfl, _⟩ := a; rfl) h) (fun cdv A outer s H vs Q E hr h => ⟨_, (pss_cons (ps_set (i := 2) sc__read_value.nd rfl (.inr rfl) (by exact (pe_mX MX_take (takes_of rfl rfl rfl rfl) hr (by omega) (pv 0) (pa_cons (pe_lc (own := [("value", 5)]) (g := gName 5) (tt := tYes) rfl sc__read_value.nd (kpil (K := K) rfl (pv 1)) (blkOk_by (N := ["reader", "values", "card", "of_card", "field", "value"]) (sc := defScope s__read_value) (by decide +kernel))
        (fun _ _ _ _ _ => (pg_name (i := 5) sc__read_value.nd rfl (.inl rfl))) (fun _ _ _ _ _ => pts_nil)
        (fun _ _ _ _ _ => (pe_ix (kixs (K := K) rfl) (pv 5) pe_int (fun _ _ => rfl)))) pa_nil))))
      (pss_cons (ps_setLc (i := 3) (own := [("value", 5)]) (g := gName 5) rfl sc__read_value.nd rfl rfl (sw_true rfl rfl rfl (by decide +kernel)) (kpil (K := K) rfl (pv 1)) (blkOk_by (N := ["reader", "values", "card", "of_card", "field", "value"]) (sc := defScope s__read_value) (by decide +kernel))
        (fun _ _ _ _ _ => (pg_name (i := 5) sc__read_value.nd rfl (.inl rfl))) (fun _ _ _ _ _ => pts_one (pt_cmpR op_eq (pe_ix (kixs (K := K) rfl) (pv 5) pe_int (fun _ _ => rfl)) (pv 2) (nomark _)))
        (fun _ _ _ _ _ => (pv 5)))
      (pss_cons (ps_set (i := 4) sc__read_value.nd rfl (.inr rfl) (by exact (pe_mX MX_take (takes_of rfl rfl rfl rfl) hr (by omega) (pv 0) (pa_cons (pe_lc (own := [("value", 5)]) (g := gName 5) (tt := tYes) rfl sc__read_value.nd (kpil (K := K) rfl (pv 3)) (blkOk_by (N := ["reader", "values", "card", "of_card", "field", "value"]) (sc := defScope s__read_value) (by decide +kernel))
        (fun _ _ _ _ _ => (pg_name (i := 5) sc__read_value.nd rfl (.inl rfl))) (fun _ _ _ _ _ => pts_nil)
        (fun _ _ _ _ _ => (pe_ix (kixs (K := K) rfl) (pv 5) pe_int (fun _ _ => rfl)))) pa_nil))))
      (pss_one (ps_ret (pe_ix (kixs (K := K) rfl) (pe_lc (own := [("value", 5)]) (g := gName 5) rfl sc__read_value.nd (kpil (K := K) rfl (pv 3)) (blkOk_by (N := ["reader", "values", "card", "of_card", "field", "value"]) (sc := defScope s__read_value) (by decide +kernel))
        (fun _ _ _ _ _ => (pg_name (i := 5) sc__read_value.nd rfl (.inl rfl))) (fun _ _ _ _ _ => pts_one (pt_cmpR op_eq (pe_ix (kixs (K := K) rfl) (pv 5) pe_int (fun _ _ => rfl)) (pv 4) (nomark _)))
        (fun _ _ _ _ _ => (pv 5))) pe_int (fun _ _ => rfl))))))),
    fn_run2 h (fun po => (z_seq (z_set fun _ => (b_methX (c := 15) (by decide) (b_up fun _ => a_var) (b_upA fun _ => (a_cons (a_fz (a_lc (vs := [5]) (i_list a_var) (g_name (by decide)) a_yes (a_op pst_pk rok_ix (a_pk a_var) a_int))) a_nil))))
      (z_seq (z_set fun _ => (b_up fun _ => (a_fz (a_lc (vs := [5]) (i_list a_var) (g_name (by decide)) (a_test (a_op pst_rv rok_eq (a_op pst_pk rok_ix (a_pk a_var) a_int) a_var)) a_var))))
      (z_seq (z_set fun _ => (b_methX (c := 15) (by decide) (b_up fun _ => a_var) (b_upA fun _ => (a_cons (a_fz (a_lc (vs := [5]) (i_list a_var) (g_name (by decide)) a_yes (a_op pst_pk rok_ix (a_pk a_var) a_int))) a_nil))))
      (z_ret fun _ => (b_up fun _ => (a_op pst_pk rok_ix (a_pk (a_fz (a_lc (vs := [5]) (i_list a_var) (g_name (by decide)) (a_test (a_op pst_rv rok_eq (a_op pst_pk rok_ix (a_pk a_var) a_int) a_var)) a_var))) a_int))))))) (fun ds M X P a => by obtain ⟨_, _, _, _, _, _, _, _, rfl, _⟩ := a; exact Nat.le_of_ble_eq_true rfl) ?_⟩)
  rintro ds M X P ⟨r, ws, n, ks, cs, k, wd, wo, rfl, hM, ⟨lw, lv⟩, rn, hx, hp⟩
  have st : ∀ x, step ks (.card cs k wd wo) x = if x ∈ (valsX ks cs wo).map (·.cn) then some (.fld cs k wd wo x) else none := fun x => rfl
  have st2 : ∀ c x, step ks (.fld cs k wd wo c) x = ((valsX ks cs wo).find? fun v => decide (v.cn = c) && decide (v.fn = x)).map (stFld cs k wd wo) := fun c x => rfl
  generalize valsX ks cs wo = vs at lv hp st st2
  refine zseqG fun N hN => ?_
  walk_at "wq"
  rw [show M r = some (.obj 15 [.lst (ws.map .str), .int n]) from hM]
  refine ⟨rfl, by rw [List.length_map]; omega, ?_⟩
  refine lcA_mapL (g := fun v : Vl => Dat.str v.cn) (fun v hv Q hQ => ?_) ?_
  · rw [show vlD v = .tup [.str v.cn, .str v.fn, .int v.sz] from rfl]
    walk_at "wq"
    exact hQ
  refine ⟨r, _, ws, vs.map (·.cn), n, by rw [List.map_map]; rfl, hM, vw_l, lw, fun c e1 hc => ?_, fun h => hx n (rn.stop rfl fun x e => (st x).trans (if_neg (h x e)))⟩
  have rn1 := rn.succ e1 ((st c).trans (if_pos hc))
  have hM1 : RdAt (Mv1 M r ws (n + 1)) r ws (n + 1) := Mv1.at_
  generalize hMe : Mv1 M r ws (n + 1) = M1 at hM1
  subst hN
  refine zseqG fun N hN => ?_
  walk_at "wq"
  refine ⟨by rw [List.length_map]; omega, ?_⟩
  refine lcA_filL (g := vlD) (fun u => decide (u.cn = c)) (fun u hu Q q1 q2 => ?_) ?_
  · rw [show vlD u = .tup [.str u.cn, .str u.fn, .int u.sz] from rfl] at q1 ⊢
    walk_at "wq"
    exact twoD (fun e => q1 (decide_eq_true e)) (fun e => q2 (decide_eq_false e))
  have lf := List.length_filter_le (fun u : Vl => decide (u.cn = c)) vs
  have ff : ∀ x, ((vs.filter fun u : Vl => decide (u.cn = c)).filter fun u => decide (u.fn = x))[0]? = vs.find? fun v => decide (v.cn = c) && decide (v.fn = x) := fun x => find_ff
  have sub : ∀ u, u ∈ vs.filter (fun u : Vl => decide (u.cn = c)) → u ∈ vs ∧ u.cn = c := fun u hu => ⟨(List.mem_filter.mp hu).1, of_decide_eq_true (List.mem_filter.mp hu).2⟩
  generalize vs.filter (fun u : Vl => decide (u.cn = c)) = oc at lf ff sub ⊢
  subst hN
  refine zseqG fun N hN => ?_
  walk_at "wq"
  rw [show M1 r = some (.obj 15 [.lst (ws.map .str), .int (n + 1 : Nat)]) from hM1]
  refine ⟨rfl, by rw [List.length_map]; omega, ?_⟩
  refine lcA_mapL (g := fun v : Vl => Dat.str v.fn) (fun v hv Q hQ => ?_) ?_
  · rw [show vlD v = .tup [.str v.cn, .str v.fn, .int v.sz] from rfl]
    walk_at "wq"
    exact hQ
  refine ⟨r, _, ws, oc.map (·.fn), n + 1, by rw [List.map_map]; rfl, hM1, vw_l, lw, fun x e2 hm => ?_, fun h => hx (n + 1) (rn1.stop rfl fun x e => ?_)⟩
  · have hf : ∃ v, (oc.filter fun u => decide (u.fn = x))[0]? = some v := by
      obtain ⟨u, mu, eu⟩ := List.mem_map.mp hm
      have : u ∈ oc.filter fun u => decide (u.fn = x) := List.mem_filter.mpr ⟨mu, decide_eq_true eu⟩
      cases e : oc.filter fun u => decide (u.fn = x) with
      | nil =>
        rw [e] at this
        cases this
      | cons v vt => exact ⟨v, rfl⟩
    obtain ⟨v, hv⟩ := hf
    have mv : v ∈ oc ∧ v.fn = x := by
      have := List.mem_of_getElem? hv
      exact ⟨(List.mem_filter.mp this).1, of_decide_eq_true (List.mem_filter.mp this).2⟩
    obtain ⟨mvs, ec⟩ := sub v mv.1
    have rn2 : Rn ks ws (n + 2) (stFld cs k wd wo v) := rn1.succ e2 (by rw [st2, ← ff, hv]; rfl)
    have go := hp v mvs (by rw [ec]; exact e1) (by rw [mv.2]; exact e2) rn2
    have eM : Mv1 M1 r ws (n + 1 + 1) = Mv1 M r ws (n + 2) := by
      rw [← hMe]
      exact Sto.pp
    rw [eM]
    subst hN
    walk_at "wq"
    refine ⟨by rw [List.length_map]; omega, ?_⟩
    refine lcA_filL (g := vlD) (fun u => decide (u.fn = x)) (fun u hu Q q1 q2 => ?_) ?_
    · rw [show vlD u = .tup [.str u.cn, .str u.fn, .int u.sz] from rfl] at q1 ⊢
      walk_at "wq"
      exact twoD (fun e => q1 (decide_eq_true e)) (fun e => q2 (decide_eq_false e))
    exact oa_at (j := 0) rfl hv go
  · rw [st2, ← ff]
    have : oc.filter (fun u => decide (u.fn = x)) = [] := List.filter_eq_nil_iff.mpr fun u hu z => h x e (List.mem_map.mpr ⟨u, hu, of_decide_eq_true z⟩)
    rw [this]
    rfl
def bspRNX : BSp := fun ds M X P => ∃ (r : Addr) (ws : List Str) (n : Nat) (many : Int), ds = [.cell r, .int many] ∧ RdAt M r ws n ∧ (ws.length ≤ 1000 ∧ 0 ≤ many ∧ many ≤ 100) ∧ (∀ j : Int, 0 ≤ j → j < many → ws[n]? = some (toString j) → P (.int j) (Mv1 M r ws (n + 1))) ∧ ((∀ x, ws[n]? = some x → x ∉ wrt 0 many) → ∀ M', X 14 [.int n] M')
theorem ok_read_numberX {f : Addr} {fd : FuncData} (F : Fun K "_read_number" "_read_number" s__read_number f fd) (B : Blt mg) (MX_take : MetX P w K mg base 3 (ca 15) "take" (toSp2 K ca bspTakeX)) (C__written : C8.Cal P w K mg base 1 "_written" (toSp K ca aspWritten) []) : FnOk P w K mg base (L2.CX P w) 4 f fd ["reader", "many"] (toSp2 K ca bspRNX) := by
  refine F.okX sc__read_number (fun vs H Q E h => sp_len2 (n := 2) (fun ds M X P a => by obtain ⟨_, _, _, _, rfl, _⟩ := a; rfl) h) (fun cdv A outer s H vs Q E hr h => ⟨_, (pss_one (ps_ret (pe_callTy call_int_str (by rfl) B.int bt_int (pa_cons (by exact (pe_mX MX_take (takes_of rfl rfl rfl rfl) hr (by omega) (pv 0) (pa_cons (C8.pe_c C__written hr (by omega) rfl (pa_cons pe_int (pa_cons (pv 1) pa_nil))) pa_nil))) pa_nil)))),
    fn_run2 h (fun po => (z_ret fun _ => (b_b1 cv_rv u_intS (b_methX (c := 15) (by decide) (b_up fun _ => a_var) (b_upA fun _ => (a_cons (a_call (a_cons a_int (a_cons a_var a_nil))) a_nil)))))) (fun ds M X P a => by obtain ⟨_, _, _, _, rfl, _⟩ := a; exact Nat.le_of_ble_eq_true rfl) ?_⟩)
  rintro ds M X P ⟨r, ws, n, many, rfl, hM, ⟨lw, m0, m1⟩, hp, hx⟩
  walk_at "wq"
  rw [show M r = some (.obj 15 [.lst (ws.map .str), .int n]) from hM]
  refine ⟨rfl, 0, many, rfl, ⟨by omega, by omega, by omega, m1⟩, ?_⟩
  refine ⟨r, _, ws, wrt 0 many, n, rfl, hM, vw_l, lw, fun x e m => ?_, hx⟩
  obtain ⟨j, j0, j1, rfl⟩ := wrt_ex m
  obtain ⟨h1, h2⟩ := txt_at j0 (show j < 100 by omega)
  unfold kIntS
  dsimp only
  rw [show PySem.intText? (Str.ofString (toString j)) = some j from h1]
  exact ⟨h2, hp j j0 j1 e⟩
def bspRNsX : BSp := fun ds M X P => ∃ (r : Addr) (ws : List Str) (n : Nat) (ks : List Kd) (cs : List Cd) (k : Nat) (v : Vl), ds = [.cell r, .int v.sz] ∧ RdAt M r ws n ∧ (ws.length ≤ 1000 ∧ 0 ≤ v.sz ∧ v.sz ≤ 100 ∧ cs ≠ []) ∧ Rn ks ws n (.num cs k "among" v) ∧ (∀ m : Nat, Stop ks ws m → ∀ M', X 14 [.int m] M') ∧
  ∀ (js : List Int) M', js ≠ [] → (∀ j ∈ js, 0 ≤ j ∧ j < v.sz) → js.Pairwise (· < ·) → (∀ i, i < js.length → ws[n + i]? = (js.map fun j => (toString j : Str))[i]?) → Bd ks ws (n + js.length) cs k → Moved M M' r → RdAt M' r ws (n + js.length) → P (.tup (js.map .int)) M'
theorem ok_read_numbersX {f : Addr} {fd : FuncData} (F : Fun K "_read_numbers" "_read_numbers" s__read_numbers f fd) (B : Blt mg) (X__read_number : CalX P w K mg base 4 "_read_number" (toSp2 K ca bspRNX)) (C__written : C8.Cal P w K mg base 1 "_written" (toSp K ca aspWritten) []) (M_ahead : C8.Met P w K mg base 1 (ca 15) "ahead" (toSp2 K ca bspAhead) []) : FnOk P w K mg base (L2.CX P w) 5 f fd ["reader", "many"] (toSp2 K ca bspRNsX) := by
  refine F.okX sc__read_numbers (fun vs H Q E h => sp_len2 (n := 2) (fun ds M X P a => by obtain ⟨_, _, _, _, _, _, _, rfl, _⟩ := a; rfl) h) (fun cdv A outer s H vs Q E hr h => ⟨_, (pss_cons (ps_set (i := 2) sc__read_numbers.nd rfl (.inl rfl) (pe_lst (pa_cons (by exact (pe_cX X__read_number (takes_of rfl rfl rfl rfl) hr (by omega) rfl (pa_cons (pv 0) (pa_cons (pv 1) pa_nil)))) pa_nil)))
      (pss_cons (ps_while (passes_of rfl) (pt_cmpR (kin (K := K) rfl) (C8.pe_mt0 M_ahead hr (by omega) (pv 0)) (C8.pe_c C__written hr (by omega) rfl (pa_cons (pe_op op_add (pe_ix (kixs (K := K) rfl) (pv 2) (pe_un un_neg pe_int) (fun _ _ => rfl)) pe_int) (pa_cons (pv 1) pa_nil))) rfl) (pss_one (ps_expr (pe_bm PySem.F.plainAttrs_list PySem.F.slot_list_append PySem.F.type_list_append mt_append (pv 2) (pa_cons (by exact (pe_cX X__read_number (takes_of rfl rfl rfl rfl) hr (by omega) rfl (pa_cons (pv 0) (pa_cons (pv 1) pa_nil)))) pa_nil)))))
      (pss_one (ps_ret (pe_callTy (ktupF (K := K) rfl) (by rfl) B.tuple bt_tuple (pa_cons (pv 2) pa_nil)))))),
    fn_run2 h (fun po => (z_seq (z_set fun _ => (b_cel (b_lst (b_cons (b_callX (b_cons (b_up fun _ => a_var) (b_cons (b_up fun _ => a_var) b_nil))) b_nil))))
      (z_seq (z_while (fun _ => (b_test (b_op pst_rv2 cv_rv cv_pk rok_inN (b_meth2 (c := 15) (by decide) (b_up fun _ => a_var) (b_upA fun _ => a_nil)) (b_pk (b_call (b_cons (b_upV 3 fun _ => (a_op pst_rv rok_I0 (a_op pst_pk rok_ix (a_pk a_var) (a_neg a_int)) a_int)) (b_cons (b_up fun _ => a_var) b_nil))))))) (z_appC (fun _ => (b_up fun _ => a_var)) (fun _ => (b_callX (b_cons (b_up fun _ => a_var) (b_cons (b_up fun _ => a_var) b_nil))))))
      (z_ret fun _ => (b_upV 3 fun _ => (a_b1 u_tupOf (a_pk a_var))))))) (fun ds M X P a => by obtain ⟨_, _, _, _, _, _, _, rfl, _⟩ := a; exact Nat.le_of_ble_eq_true rfl) ?_⟩)
  rintro ds M X P ⟨r, ws, n, ks, cs, k, v, rfl, hM, ⟨lw, m0, m1, ncs⟩, rn, hx, hp⟩
  have st1 : ∀ x, step ks (.num cs k "among" v) x = if x ∈ wrt 0 v.sz then some (.nums cs k v (numW x + 1)) else none := fun x => rfl
  have st2 : ∀ lo x, step ks (.nums cs k v lo) x = if x ∈ wrt 0 100 then (if x ∈ wrt lo v.sz then some (.nums cs k v (numW x + 1)) else none) else stStart ks cs k x := fun lo x => rfl
  refine zseqG fun N hN => ?_
  walk_at "wq"
  refine ⟨r, ws, n, v.sz, rfl, hM, ⟨lw, m0, m1⟩, fun k0 k00 k01 e0 => ?_, fun h => hx n (rn.stop rfl fun x e => (st1 x).trans (if_neg (h x e)))⟩
  have rn1 := rn.succ e0 ((st1 _).trans (if_pos ((wrt_mem (Int.le_refl 0) m1 k00 (by omega)).mpr ⟨k00, k01⟩)))
  rw [num_txt k00 (by omega)] at rn1
  have hM1 : RdAt (Mv1 M r ws (n + 1)) r ws (n + 1) := Mv1.at_
  have mv : Moved M (Mv1 M r ws (n + 1)) r := Mv1.mv
  generalize Mv1 M r ws (n + 1) = M1 at hM1 mv
  intro a ha
  have nar : a ≠ r := fun z => by
    rw [z, show M1 r = some (.obj 15 [.lst (ws.map .str), .int (n + 1 : Nat)]) from hM1] at ha
    cases ha
  have nam : M a = none := by
    cases e : M a with
    | none => rfl
    | some c =>
      have := mv a nar (by rw [e]; exact fun z => nomatch z)
      rw [ha, e] at this
      cases this
  subst hN
  refine zseqG fun N hN => ?_
  have hSt : ∃ W : Nat → List Sl → Sto → Prop, ∀ j env M', W j env M' ↔ ∃ (dn : List Int) (l : Int), env = [Sl.d (.cell r), Sl.d (.int v.sz), Sl.d (.cell a)] ∧ (∀ j ∈ dn ++ [l], 0 ≤ j ∧ j < v.sz) ∧ (dn ++ [l]).Pairwise (· < ·) ∧ (∀ i, i < (dn ++ [l]).length → ws[n + i]? = ((dn ++ [l]).map fun j => (toString j : Str))[i]?) ∧ ws.length - (n + (dn ++ [l]).length) = j ∧ Rn ks ws (n + (dn ++ [l]).length) (.nums cs k v (l + 1)) ∧ RdAt M' r ws (n + (dn ++ [l]).length) ∧ M' a = some (.lst ((dn ++ [l]).map .int)) ∧ Moved M M' r := ⟨_, fun _ _ _ => Iff.rfl⟩
  obtain ⟨W, hW⟩ := hSt
  refine ⟨W, ⟨_, (hW _ _ _).mpr ⟨[], k0, rfl, fun j hj => ?_, List.pairwise_singleton _ _, fun i hi => ?_, rfl, rn1, ?_, Sto.put_s, ?_⟩⟩, ?_⟩
  · obtain rfl := List.mem_singleton.mp hj
    exact ⟨k00, k01⟩
  · obtain rfl : i = 0 := by have : i < 1 := hi; omega
    exact e0
  · show _ = _
    rw [Sto.put_n (Ne.symm nar)]
    exact hM1
  · intro y h1 h2
    rw [Sto.put_n (fun z => h2 (by rw [z]; exact nam))]
    exact mv y h1 h2
  intro j env M2 w
  obtain ⟨dn, l, rfl, rg, pw, hd, lj, rnl, hr2, ha2, mv2⟩ := (hW _ _ _).mp w
  clear w
  have rgl := rg l (List.mem_append.mpr (.inr List.mem_cons_self))
  have ln : (dn ++ [l]).length ≤ 1000 := by have := rnl.le; omega
  walk_at "wq"
  rw [show M2 r = some (.obj 15 [.lst (ws.map .str), .int (n + (dn ++ [l]).length : Nat)]) from hr2]
  refine ⟨rfl, r, ws, _, rfl, hr2, lw, ?_⟩
  dsimp only
  rw [vw_lst ha2, show ((dn ++ [l]).map Dat.int).map (vwD 2 M2) = dn.map .int ++ [.int l] from by rw [List.map_map, List.map_append]; rfl]
  have fin : (∀ x, ws[n + (dn ++ [l]).length]? = some x → x ∉ wrt (l + 1) v.sz) → N [Sl.d (.cell r), Sl.d (.int v.sz), Sl.d (.cell a)] M2 := fun h => by
    subst hN
    walk_at "wq"
    rw [vw_lst ha2, show ((dn ++ [l]).map Dat.int).map (vwD 2 M2) = (dn ++ [l]).map .int from by rw [List.map_map]; rfl]
    refine ⟨ftAll_of fun x hx => (by obtain ⟨y, _, rfl⟩ := List.mem_map.mp hx; rfl), hp _ M2 (by simp) rg pw hd ?_ mv2 hr2⟩
    refine ⟨_, rnl, ?_, fun x e => ?_⟩
    · cases cs with
      | nil => exact absurd rfl ncs
      | cons _ _ => rfl
    · rw [st2]
      by_cases m : x ∈ wrt 0 100
      · rw [if_pos m, if_neg (h x e), st_num m]
      · rw [if_neg m]
  walk_at "wq"
  rw [atI_last]
  walk_at "wq"
  refine ⟨l + 1, v.sz, rfl, ⟨by omega, by omega, by omega, m1⟩, ?_⟩
  walk_at "wq"
  cases e : ws[n + (dn ++ [l]).length]? with
  | none =>
    refine kInN_n ?_
    walk_at "wq"
    exact fin fun x z => by rw [e] at z; cases z
  | some x =>
    refine kInN_s ?_
    rw [if_neg (by decide)]
    by_cases m : x ∈ wrt (l + 1) v.sz
    · obtain ⟨i, i0, i1, rfl⟩ := wrt_ex m
      have m0' : (toString i : Str) ∈ wrt 0 100 := (wrt_mem (Int.le_refl 0) (Int.le_refl 100) (by omega) (by omega)).mpr ⟨by omega, by omega⟩
      have rn3 := rnl.succ e ((st2 _ _).trans ((if_pos m0').trans (if_pos m)))
      rw [num_txt (by omega) (by omega)] at rn3
      rw [decide_eq_true m]
      walk_at "wq"
      rw [ha2]
      refine ⟨r, ws, _, v.sz, rfl, hr2, ⟨lw, m0, m1⟩, fun i' i0' i1' e' => ?_, fun h => absurd (wrt_sub (by omega) m) (h _ e)⟩
      rw [e] at e'
      obtain rfl := txt_inj (i := i) (j := i') (by omega) (by omega) i0' (by omega) (Option.some.inj e')
      unfold Mv1
      rw [Sto.put_n nar, ha2]
      refine ⟨by rw [List.length_map]; omega, _, ?_, (hW _ _ _).mpr ⟨dn ++ [l], i, rfl, fun y hy => ?_, ?_, fun q hq => ?_, rfl, ?_, ?_, ?_, ?_⟩⟩
      · have := (List.getElem?_eq_some_iff.mp e).1
        rw [← lj, List.length_append (as := dn ++ [l]), List.length_singleton]
        omega
      · rcases List.mem_append.mp hy with hy | hy
        · exact rg y hy
        · obtain rfl := List.mem_singleton.mp hy
          exact ⟨by omega, i1⟩
      · rw [List.pairwise_append]
        refine ⟨pw, List.pairwise_singleton _ _, fun y hy z hz => ?_⟩
        obtain rfl := List.mem_singleton.mp hz
        have : y ≤ l := by
          rcases List.mem_append.mp hy with hy | hy
          · rw [List.pairwise_append] at pw
            exact Int.le_of_lt (pw.2.2 y hy l List.mem_cons_self)
          · rw [List.mem_singleton.mp hy]
            exact Int.le_refl _
        omega
      · rw [List.length_append (as := dn ++ [l]), List.length_singleton] at hq
        rw [List.map_append]
        by_cases hq2 : q < (dn ++ [l]).length
        · rw [List.getElem?_append_left (by rw [List.length_map]; exact hq2)]
          exact hd q hq2
        · obtain rfl : q = (dn ++ [l]).length := by omega
          rw [List.getElem?_append_right (by rw [List.length_map]; omega), List.length_map, Nat.sub_self]
          exact e
      · rw [List.length_append (as := dn ++ [l])]
        exact rn3
      · show _ = _
        rw [Sto.put_n (Ne.symm nar), Sto.put_s, List.length_append (as := dn ++ [l])]
        rfl
      · rw [Sto.put_s, List.map_append (l₁ := dn ++ [l])]
        rfl
      · intro y h1 h2
        rw [Sto.put_n (fun z => h2 (by rw [z]; exact nam)), Sto.put_n h1]
        exact mv2 y h1 h2
    · rw [decide_eq_false m]
      walk_at "wq"
      exact fin fun y z => by rw [e] at z; cases z; exact m
end
theorem valsX_none {ks : List Kd} {cs : List Cd} : valsX ks cs none = valsO ks cs := List.filter_eq_self.mpr fun _ _ => rfl
theorem say_all {wd : Str} {vs : List Vl} (h1 : ∀ v ∈ vs, 1 ≤ v.sz) (h : 0 < (sayV wd vs).length) : sayV wd vs = vs := by
  unfold sayV at h ⊢
  split
  · rfl
  · split
    · next e =>
      rw [if_neg ‹_›, if_pos e] at h
      split
      · rfl
      · next e2 =>
        rw [if_neg e2] at h
        exact absurd h (Nat.lt_irrefl 0)
    · exact List.filter_eq_self.mpr fun v hv => decide_eq_true (by have := h1 v hv; omega)
theorem say_len {wd : Str} {vs : List Vl} (h1 : ∀ v ∈ vs, 1 ≤ v.sz) : 0 < (sayV wd vs).length ↔ (if wd = "same" then 1 else 0) < vs.length := by
  unfold sayV
  by_cases e : wd = "tell"
  · rw [if_pos e, if_neg (by rw [e]; decide)]
  · rw [if_neg e]
    by_cases e2 : wd = "same"
    · rw [if_pos e2, if_pos e2]
      split
      · next h => exact ⟨fun _ => h, fun _ => by omega⟩
      · next h => exact ⟨fun z => absurd z (Nat.lt_irrefl 0), fun z => absurd z h⟩
    · rw [if_neg e2, if_neg e2, List.filter_eq_self.mpr fun v hv => decide_eq_true (by have := h1 v hv; omega)]
theorem st_card {ks : List Kd} {cs : List Cd} {k : Nat} {wd : Str} (h1 : ∀ v ∈ valsO ks cs, 1 ≤ v.sz) (hk : k ≤ 5) (ne : cs ≠ []) (hw : wd ∈ cwS) (h : 0 < (sayV wd (valsO ks cs)).length) : stStart ks cs k wd = some (.card cs (k + 1) wd none) := by
  unfold stStart
  rw [if_neg (fun z => (cw_kw hw).2 z.1), if_pos ⟨hw, hk, ne, (say_len h1).mp h⟩]
theorem st_bad {ks : List Kd} {cs : List Cd} {k : Nat} {wd : Str} (h1 : ∀ v ∈ valsO ks cs, 1 ≤ v.sz) (hc : wd = "card" → k ≠ 0 ∨ 3 ≤ cs.length) (h : wd ∈ cwS → ¬ 0 < (sayV wd (valsO ks cs)).length) : stStart ks cs k wd = none := by
  unfold stStart
  rw [if_neg (fun z => by rcases hc z.1 with e | e <;> omega), if_neg (fun z => h z.1 ((say_len h1).mpr z.2.2.2))]
section
variable {P : Program} {w : World} {K : PySem.W.Frag} {mg : Str → Option Value} {base : Heap} {ca : Nat → Addr} {gKW gCW : Addr}
def bspRCX : BSp := fun ds M X P => ∃ (r : Addr) (ws : List Str) (n : Nat) (ks : List Kd) (cs : List Cd) (k : Nat), ds = [.cell r, .lst ((valsO ks cs).map vlD)] ∧ RdAt M r ws n ∧ (ws.length ≤ 1000 ∧ VsOk (valsO ks cs) ∧ (∀ v ∈ valsO ks cs, 1 ≤ v.sz) ∧ cs ≠ [] ∧ k ≤ 5 ∧ (∃ w, ws[n]? = some w) ∧ (ws[n]? = some ("card" : Str) → k ≠ 0 ∨ 3 ≤ cs.length)) ∧ Bd ks ws n cs k ∧ (∀ m : Nat, Stop ks ws m → ∀ M', X 14 [.int m] M') ∧
  ∀ (x : Cnd) M', CnFit (valsO ks cs) x → (∀ i, i < (cndW x).length → ws[n + i]? = (cndW x)[i]?) → Bd ks ws (n + (cndW x).length) cs (k + 1) → Moved M M' r → RdAt M' r ws (n + (cndW x).length) → P (cndD x) M'
theorem ok_read_conditionX {f : Addr} {fd : FuncData} (F : Fun K "_read_condition" "_read_condition" s__read_condition f fd) (B : Blt mg) (G_CONDITION_WORDS : mg "CONDITION_WORDS" = some (.ref gCW)) (T_CONDITION_WORDS : GTup K gCW cwS) (MX_take : MetX P w K mg base 3 (ca 15) "take" (toSp2 K ca bspTakeX)) (C__sayable : C8.Cal P w K mg base 1 "_sayable" (toSp K ca aspSay) []) (X__read_value : CalX P w K mg base 4 "_read_value" (toSp2 K ca bspRVX)) (X__read_number : CalX P w K mg base 4 "_read_number" (toSp2 K ca bspRNX)) (X__read_numbers : CalX P w K mg base 5 "_read_numbers" (toSp2 K ca bspRNsX)) : FnOk P w K mg base (L2.CX P w) 6 f fd ["reader", "values"] (toSp2 K ca bspRCX) := by
  refine F.okX sc__read_condition (fun vs H Q E h => sp_len2 (n := 2) (fun ds M X P a => by obtain ⟨_, _, _, _, _, _, rfl, _⟩ := a; rfl) h) (fun cdv A outer s H vs Q E hr h => ⟨_, (pss_cons (ps_set (i := 2) sc__read_condition.nd rfl (.inl rfl) (by exact (pe_mX MX_take (takes_of rfl rfl rfl rfl) hr (by omega) (pv 0) (pa_cons (pe_lc (own := [("begin", 11)]) (g := gName 11) rfl sc__read_condition.nd (kpit (K := K) rfl (pe_glob (v := .ref _) rfl G_CONDITION_WORDS rfl)) (blkOk_by (N := ["reader", "values", "word", "sayable", "value", "card", "field", "many", "other_card", "other_field", "_", "begin", "other"]) (sc := defScope s__read_condition) (by decide +kernel))
        (fun _ _ _ _ _ => (pg_name (i := 11) sc__read_condition.nd rfl (.inl rfl))) (fun _ _ _ _ _ => pts_one (pt_cmpR op_gt (pe_callB (klen (K := K) rfl) (by rfl) B.len bt_len (pa_cons (C8.pe_c C__sayable hr (by omega) rfl (pa_cons (pv 11) (pa_cons (pv 1) pa_nil))) pa_nil)) pe_int (nomark _)))
        (fun _ _ _ _ _ => (pv 11))) pa_nil))))
      (pss_cons (ps_set (i := 3) sc__read_condition.nd rfl (.inl rfl) (C8.pe_c C__sayable hr (by omega) rfl (pa_cons (pv 2) (pa_cons (pv 1) pa_nil))))
      (pss_cons (ps_set (i := 4) sc__read_condition.nd rfl (.inr rfl) (by exact (pe_cX X__read_value (takes_of rfl rfl rfl rfl) hr (by omega) rfl (pa_cons (pv 0) (pa_cons (pv 3) pa_nil)))))
      (pss_cons (ps_asg (pv 4) (kgtup (K := K) (n := 3) rfl rfl (pgs_cons (pg_name (i := 5) sc__read_condition.nd rfl (.inl rfl)) (pgs_cons (pg_name (i := 6) sc__read_condition.nd rfl (.inl rfl)) (pgs_cons (pg_name (i := 7) sc__read_condition.nd rfl (.inl rfl)) pgs_nil)))))
      (pss_cons (ps_if (pt_cmpR op_eq (pv 2) pe_str (nomark _)) (pss_one (ps_ret (pe_tupF (pa_cons (pv 2) (pa_cons (pv 5) (pa_cons (pv 6) pa_nil)))))) pss_nil)
      (pss_cons (ps_if (pt_cmpR op_eq (pv 2) pe_str (nomark _)) (pss_cons (ps_asg (by exact (pe_cX X__read_value (takes_of rfl rfl rfl rfl) hr (by omega) rfl (pa_cons (pv 0) (pa_cons (pe_lc (own := [("other", 12)]) (g := gName 12) rfl sc__read_condition.nd (kpil (K := K) rfl (pv 3)) (blkOk_by (N := ["reader", "values", "word", "sayable", "value", "card", "field", "many", "other_card", "other_field", "_", "begin", "other"]) (sc := defScope s__read_condition) (by decide +kernel))
        (fun _ _ _ _ _ => (pg_name (i := 12) sc__read_condition.nd rfl (.inl rfl))) (fun _ _ _ _ _ => pts_one (pt_cmpR (kned (K := K) rfl hr.units) (pv 12) (pv 4) (nomark _)))
        (fun _ _ _ _ _ => (pv 12))) pa_nil)))) (kgtup (K := K) (n := 3) rfl rfl (pgs_cons (pg_name (i := 8) sc__read_condition.nd rfl (.inl rfl)) (pgs_cons (pg_name (i := 9) sc__read_condition.nd rfl (.inl rfl)) (pgs_cons (pg_name (i := 10) sc__read_condition.nd rfl (.inl rfl)) pgs_nil)))))
      (pss_one (ps_ret (pe_tupF (pa_cons (pv 2) (pa_cons (pv 5) (pa_cons (pv 6) (pa_cons (pv 8) (pa_cons (pv 9) pa_nil))))))))) pss_nil)
      (pss_cons (ps_if (pt_cmpR op_eq (pv 2) pe_str (nomark _)) (pss_one (ps_ret (pe_tupF (pa_cons (pv 2) (pa_cons (pv 5) (pa_cons (pv 6) (pa_cons (by exact (pe_cX X__read_numbers (takes_of rfl rfl rfl rfl) hr (by omega) rfl (pa_cons (pv 0) (pa_cons (pv 7) pa_nil)))) pa_nil))))))) pss_nil)
      (pss_one (ps_ret (pe_tupF (pa_cons (pv 2) (pa_cons (pv 5) (pa_cons (pv 6) (pa_cons (by exact (pe_cX X__read_number (takes_of rfl rfl rfl rfl) hr (by omega) rfl (pa_cons (pv 0) (pa_cons (pv 7) pa_nil)))) pa_nil)))))))))))))),
    fn_run2 h (fun po => (z_seq (z_set fun _ => (b_methX (c := 15) (by decide) (b_up fun _ => a_var) (b_upA fun _ => (a_cons (a_fz (a_lc (vs := [11]) (i_G T_CONDITION_WORDS) (g_name (by decide)) (a_test (a_op pst_rv rok_B0 (a_b1 u_len (a_pk (a_call (a_cons a_var (a_cons a_var a_nil))))) a_int)) a_var)) a_nil))))
      (z_seq (z_set fun _ => (b_up fun _ => (a_call (a_cons a_var (a_cons a_var a_nil)))))
      (z_seq (z_set fun _ => (b_callX (b_cons (b_up fun _ => a_var) (b_cons (b_up fun _ => a_var) b_nil))))
      (z_seq (z_asg (vs := [5, 6, 7]) (fun _ => (b_up fun _ => a_var)) (fun _ => (g_tup (g_cons (g_name (by decide)) (g_cons (g_name (by decide)) (g_cons (g_name (by decide)) g_nil tot_name) tot_name) tot_name))))
      (z_seq (z_if (fun _ => (b_upT fun _ => (a_test (a_op pst_rv rok_eq a_var a_str)))) (z_ret fun _ => (b_up fun _ => (a_tup (a_cons a_var (a_cons a_var (a_cons a_var a_nil)))))) z_next)
      (z_seq (z_if (fun _ => (b_upT fun _ => (a_test (a_op pst_rv rok_eq a_var a_str)))) (z_seq (z_asg (vs := [8, 9, 10]) (fun _ => (b_callX (b_cons (b_up fun _ => a_var) (b_cons (b_up fun _ => (a_fz (a_lc (vs := [12]) (i_list a_var) (g_name (by decide)) (a_test (a_op pst_pk rok_neD (a_pk a_var) (a_pk a_var))) a_var))) b_nil)))) (fun _ => (g_tup (g_cons (g_name (by decide)) (g_cons (g_name (by decide)) (g_cons (g_name (by decide)) g_nil tot_name) tot_name) tot_name))))
      (z_ret fun _ => (b_up fun _ => (a_tup (a_cons a_var (a_cons a_var (a_cons a_var (a_cons a_var (a_cons a_var a_nil))))))))) z_next)
      (z_seq (z_if (fun _ => (b_upT fun _ => (a_test (a_op pst_rv rok_eq a_var a_str)))) (z_ret fun _ => (b_tup (b_cons (b_up fun _ => a_var) (b_cons (b_up fun _ => a_var) (b_cons (b_up fun _ => a_var) (b_cons (b_callX (b_cons (b_up fun _ => a_var) (b_cons (b_up fun _ => a_var) b_nil))) b_nil)))))) z_next)
      (z_ret fun _ => (b_tup (b_cons (b_up fun _ => a_var) (b_cons (b_up fun _ => a_var) (b_cons (b_up fun _ => a_var) (b_cons (b_callX (b_cons (b_up fun _ => a_var) (b_cons (b_up fun _ => a_var) b_nil))) b_nil)))))))))))))) (fun ds M X P a => by obtain ⟨_, _, _, _, _, _, rfl, _⟩ := a; exact Nat.le_of_ble_eq_true rfl) ?_⟩)
  rintro ds M X P ⟨r, ws, n, ks, cs, k, rfl, hM, ⟨lw, vok, s1, ncs, k5, ⟨wd, ew⟩, hcd⟩, bd, hx, hp⟩
  have lv := vok.ln
  refine zseqG fun N hN => ?_
  walk_at "wq"
  rw [show M r = some (.obj 15 [.lst (ws.map .str), .int n]) from hM]
  refine ⟨rfl, Nat.le_of_ble_eq_true rfl, ?_⟩
  refine lcA_filL (g := Dat.str) (fun b => decide (0 < (sayV b (valsO ks cs)).length)) (fun b hb Q q1 q2 => ?_) ?_
  · walk_at "wq"
    refine ⟨b, valsO ks cs, rfl, by omega, ?_⟩
    walk_at "wq"
    rw [List.length_map]
    exact twoD (fun e => q1 (decide_eq_true (by omega))) (fun e => q2 (decide_eq_false (by omega)))
  refine ⟨r, _, ws, _, n, rfl, hM, vw_l, lw, fun x e m => ?_, fun h => hx n (bd.stop ew (st_bad s1 (fun z => hcd (by rw [ew, z])) fun hw z => h wd ew (List.mem_filter.mpr ⟨hw, decide_eq_true z⟩)))⟩
  rw [ew] at e
  obtain rfl := Option.some.inj e
  obtain ⟨hw, hs⟩ := List.mem_filter.mp m
  have hs := of_decide_eq_true hs
  have rn1 := bd.to ew (st_card s1 k5 ncs hw hs)
  have esay := say_all s1 hs
  clear bd m
  have hM1 : RdAt (Mv1 M r ws (n + 1)) r ws (n + 1) := Mv1.at_
  have mv1 : Moved M (Mv1 M r ws (n + 1)) r := Mv1.mv
  generalize Mv1 M r ws (n + 1) = M1 at hM1 mv1
  subst hN
  refine zseqG fun N hN => ?_
  walk_at "wq"
  refine ⟨wd, valsO ks cs, rfl, by omega, ?_⟩
  rw [esay]
  subst hN
  refine zseqG fun N hN => ?_
  walk_at "wq"
  refine ⟨r, ws, n + 1, ks, cs, k + 1, wd, none, by rw [valsX_none], hM1, ⟨lw, by rw [valsX_none]; omega⟩, rn1, hx, fun v hv e1 e2 rn3 => ?_⟩
  rw [valsX_none] at hv
  have hM2 : RdAt (Mv1 M1 r ws (n + 1 + 2)) r ws (n + 1 + 2) := Mv1.at_
  have mv2 : Moved M (Mv1 M1 r ws (n + 1 + 2)) r := mv1.trans Mv1.mv
  generalize Mv1 M1 r ws (n + 1 + 2) = M2 at hM2 mv2
  have sz := vok.sz v hv
  have h3 : ∀ (l : List Str), (∀ i, i < l.length → ws[n + 1 + 2 + i]? = l[i]?) → ∀ i, i < (wd :: v.cn :: v.fn :: l).length → ws[n + i]? = (wd :: v.cn :: v.fn :: l)[i]? := fun l h i hi => by
    match i, hi with
    | 0, _ => exact ew
    | 1, _ => exact e1
    | 2, _ => exact e2
    | i + 3, hi =>
      rw [show n + (i + 3) = n + 1 + 2 + i by omega]
      exact h i (by simp only [List.length_cons] at hi; omega)
  subst hN
  refine zseqG fun N hN => ?_
  rw [show vlD v = .tup [.str v.cn, .str v.fn, .int v.sz] from rfl]
  walk_at "wq"
  subst hN
  refine zseqG fun N hN => ?_
  walk_at "wq"
  clear hM hM1 mv1 M1
  refine twoD (fun et => ?_) (fun et => ?_)
  · have et : wd = "tell" := et
    subst et
    rw [show stFld cs (k + 1) "tell" none v = .start cs (k + 1) from if_pos (.inl rfl)] at rn3
    exact hp (.tell v.cn v.fn) M2 (.tell v hv) (h3 [] fun i hi => absurd hi (Nat.not_lt_zero _)) (Bd.start rn3) mv2 hM2
  have et : wd ≠ "tell" := et
  subst hN
  refine zseqG fun N hN => ?_
  walk_at "wq"
  refine twoD (fun es => ?_) (fun es => ?_)
  · have es : wd = "same" := es
    subst es
    rw [show stFld cs (k + 1) "same" none v = .card cs (k + 1) "same" (some v) from (if_neg (fun z => z.elim (by decide) fun y => y rfl)).trans (if_pos rfl)] at rn3
    refine zseqG fun N2 hN2 => ?_
    walk_at "wq"
    refine ⟨by rw [List.length_map]; omega, ?_⟩
    refine lcA_filL (g := vlD) (fun y => !decide (some v = some y)) (fun y hy Q q1 q2 => ?_) ?_
    · walk_at "wq"
      refine ⟨okE_vl (vok.so y hy), okE_vl (vok.so v hv), fun b hb => ?_⟩
      have e : b = decide (some v = some y) := by
        rw [Bool.eq_iff_iff, hb, decide_eq_true_eq, Option.some.injEq]
        exact ⟨fun z => (vlD_inj z).symm, fun z => by rw [z]; rfl⟩
      subst e
      walk_at "wq"
      exact twoN (fun e => q1 (by rw [decide_eq_false e]; rfl)) (fun e => q2 (by rw [decide_eq_true e]; rfl))
    have lf2 := List.length_filter_le (fun y : Vl => !decide (some v = some y)) (valsO ks cs)
    refine ⟨r, ws, n + 1 + 2, ks, cs, k + 1, "same", some v, rfl, hM2, ⟨lw, by show ((valsO ks cs).filter _).length ≤ _; omega⟩, rn3, hx, fun u hu e3 e4 rn5 => ?_⟩
    obtain ⟨hu, ne⟩ := List.mem_filter.mp hu
    have ne : u ≠ v := fun z => by rw [z, decide_eq_true rfl] at ne; cases ne
    rw [show stFld cs (k + 1) "same" (some v) u = .start cs (k + 1) from if_pos (.inr fun z => nomatch z)] at rn5
    rw [show vlD u = .tup [.str u.cn, .str u.fn, .int u.sz] from rfl]
    walk_at "wq"
    subst hN2
    walk_at "wq"
    refine hp (.same v.cn v.fn u.cn u.fn) _ (.same v u hv hu ne) (h3 [u.cn, u.fn] fun i hi => ?_) (Bd.start rn5) (mv2.trans Mv1.mv) Mv1.at_
    match i, hi with
    | 0, _ => exact e3
    | 1, _ => exact e4
  have es : wd ≠ "same" := es
  rw [show stFld cs (k + 1) wd none v = .num cs (k + 1) wd v from (if_neg (fun z => z.elim et fun y => y rfl)).trans (if_neg es)] at rn3
  have st1 : ∀ x, step ks (.num cs (k + 1) wd v) x = if x ∈ wrt 0 v.sz then some (if wd = "among" then .nums cs (k + 1) v (numW x + 1) else .start cs (k + 1)) else none := fun x => rfl
  subst hN
  refine zseqG fun N hN => ?_
  walk_at "wq"
  refine twoD (fun ea => ?_) (fun ea => ?_)
  · have ea : wd = "among" := ea
    subst ea
    refine ⟨r, ws, _, ks, cs, k + 1, v, rfl, hM2, ⟨lw, sz.1, sz.2, ncs⟩, rn3, hx, fun js M' nj rg pw hd bd mv' hM' => ?_⟩
    have e : n + (cndW (.among v.cn v.fn js)).length = n + 1 + 2 + js.length := by
      unfold cndW rsC
      simp only [List.length_cons, List.length_map]
      omega
    exact hp (.among v.cn v.fn js) M' (.among v hv js nj rg pw) (h3 _ fun i hi => hd i (by have h : i < (js.map fun n => (toString n : Str)).length := hi; rw [List.length_map] at h; exact h)) (by rw [e]; exact bd) (mv2.trans mv') (by rw [e]; exact hM')
  have ea : wd ≠ "among" := ea
  subst hN
  walk_at "wq"
  refine ⟨r, ws, _, v.sz, rfl, hM2, ⟨lw, sz.1, sz.2⟩, fun j j0 j1 ej => ?_, fun h => hx (n + 1 + 2) (rn3.stop rfl fun x e => (st1 x).trans (if_neg (h x e)))⟩
  have rn4 := rn3.succ ej ((st1 _).trans ((if_pos ((wrt_mem (Int.le_refl 0) sz.2 j0 (by omega)).mpr ⟨j0, j1⟩)).trans (by rw [if_neg ea])))
  have ew2 : wd = "equal" ∨ wd = "least" := by
    have : cwS.all (fun y => decide (y = "tell" ∨ y = "same" ∨ y = "among" ∨ y = "equal" ∨ y = "least")) = true := by decide +kernel
    rcases of_decide_eq_true (List.all_eq_true.mp this wd hw) with h | h | h | h | h
    · exact absurd h et
    · exact absurd h es
    · exact absurd h ea
    · exact .inl h
    · exact .inr h
  rcases ew2 with ew2 | ew2
  · subst ew2
    refine hp (.equal v.cn v.fn j) _ (.equal v hv j j0 j1) (h3 [toString j] fun i hi => ?_) (Bd.start rn4) (mv2.trans Mv1.mv) Mv1.at_
    obtain rfl : i = 0 := by have : i < 1 := hi; omega
    exact ej
  · subst ew2
    refine hp (.least v.cn v.fn j) _ (.least v hv j j0 j1) (h3 [toString j] fun i hi => ?_) (Bd.start rn4) (mv2.trans Mv1.mv) Mv1.at_
    obtain rfl : i = 0 := by have : i < 1 := hi; omega
    exact ej
end
theorem isNm_0 {x : Str} (h : isNm x = true → x ∈ ([] : List Str)) : ¬ isNm x = true := fun z => nomatch h z
section
variable {P : Program} {w : World} {K : PySem.W.Frag} {mg : Str → Option Value} {base : Heap} {ca : Nat → Addr} {gKW gCW : Addr}
def bspRCaX : BSp := fun ds M X P => ∃ (r : Addr) (ws : List Str) (n : Nat) (ks : List Kd) (cs : List Cd), ds = [.cell r, .lst (ks.map kdP), .lst ((cs.map (·.nm)).map .str)] ∧ RdAt M r ws n ∧ (ws.length ≤ 1000 ∧ (∀ x ∈ ws, x.length ≤ 1000) ∧ ks.length ≤ 100 ∧ cs.length < 3 ∧ (cs = [] ∨ ws[n]? = some ("card" : Str))) ∧ Bd ks ws n cs 0 ∧ (∀ m : Nat, Stop ks ws m → ∀ M', X 14 [.int m] M') ∧
  ∀ (c : Cd) M', CaFit ks (cs.map (·.nm)) c → (∀ i, i < (cardW c).length → ws[n + i]? = (cardW c)[i]?) → Bd ks ws (n + (cardW c).length) (cs ++ [c]) 0 → Moved M M' r → RdAt M' r ws (n + (cardW c).length) → P (cdD c) M'
theorem ok_read_cardX {f : Addr} {fd : FuncData} (F : Fun K "_read_card" "_read_card" s__read_card f fd) (T3 : KdT K (ca 3)) (B : Blt mg) (G : GlP mg) (M_ahead : C8.Met P w K mg base 1 (ca 15) "ahead" (toSp2 K ca bspAhead) []) (MX_take : MetX P w K mg base 3 (ca 15) "take" (toSp2 K ca bspTakeX)) (MX_take_name : MetX P w K mg base 4 (ca 15) "take_name" (toSp2 K ca bspTakeNX)) (C__is_name : C8.Cal P w K mg base 1 "_is_name" (toSp K ca aspIsName) []) : FnOk P w K mg base (L2.CX P w) 5 f fd ["reader", "kinds", "taken"] (toSp2 K ca bspRCaX) := by
  refine F.okX sc__read_card (fun vs H Q E h => sp_len2 (n := 3) (fun ds M X P a => by obtain ⟨_, _, _, _, _, rfl, _⟩ := a; rfl) h) (fun cdv A outer s H vs Q E hr h => ⟨_, (pss_cons (ps_expr (by exact (pe_mX MX_take (takes_of rfl rfl rfl rfl) hr (by omega) (pv 0) (pa_cons (pe_lst (pa_cons pe_str pa_nil)) pa_nil))))
      (pss_cons (ps_set (i := 3) sc__read_card.nd rfl (.inl rfl) (by exact (pe_mX MX_take_name (takes_of rfl rfl rfl rfl) hr (by omega) (pv 0) (pa_cons (pv 2) pa_nil))))
      (pss_cons (ps_set (i := 4) sc__read_card.nd rfl (.inl rfl) (by exact (pe_mX MX_take (takes_of rfl rfl rfl rfl) hr (by omega) (pv 0) (pa_cons (pe_lc (own := [("listed", 6)]) (g := gName 6) (tt := tYes) rfl sc__read_card.nd (kpil (K := K) rfl (pv 1)) (blkOk_by (N := ["reader", "kinds", "taken", "name", "kind", "issuers", "listed"]) (sc := defScope s__read_card) (by decide +kernel))
        (fun _ _ _ _ _ => (pg_name (i := 6) sc__read_card.nd rfl (.inl rfl))) (fun _ _ _ _ _ => pts_nil)
        (fun _ _ _ _ _ => (kfld (K := K) rfl (pv 6)))) pa_nil))))
      (pss_cons (ps_expr (by exact (pe_mX MX_take (takes_of rfl rfl rfl rfl) hr (by omega) (pv 0) (pa_cons (pe_lst (pa_cons pe_str pa_nil)) pa_nil))))
      (pss_cons (ps_set (i := 5) sc__read_card.nd rfl (.inl rfl) (pe_lst (pa_cons (by exact (pe_mX MX_take_name (takes_of rfl rfl rfl rfl) hr (by omega) (pv 0) (pa_cons (pe_lst pa_nil) pa_nil))) pa_nil)))
      (pss_cons (ps_while (passes_of rfl) (PW.pt (pw_and (pt_cmpR op_lt (pe_callB (klen (K := K) rfl) (by rfl) B.len bt_len (pa_cons (pv 5) pa_nil)) (pe_gint G.MOST_ISSUERS) (nomark _)) (pw_and1 (pt_val (C8.pe_c C__is_name hr (by omega) rfl (pa_cons (C8.pe_mt0 M_ahead hr (by omega) (pv 0)) pa_nil)))))) (pss_one (ps_expr (pe_bm PySem.F.plainAttrs_list PySem.F.slot_list_append PySem.F.type_list_append mt_append (pv 5) (pa_cons (by exact (pe_mX MX_take_name (takes_of rfl rfl rfl rfl) hr (by omega) (pv 0) (pa_cons (pv 5) pa_nil))) pa_nil)))))
      (pss_one (ps_ret (pe_tupF (pa_cons (pv 3) (pa_cons (pv 4) (pa_cons (pe_callTy (ktupF (K := K) rfl) (by rfl) B.tuple bt_tuple (pa_cons (pv 5) pa_nil)) pa_nil)))))))))))),
    fn_run2 h (fun po => (z_seq (z_drop fun _ => (b_methX (c := 15) (by decide) (b_up fun _ => a_var) (b_upA fun _ => (a_cons (a_fz (a_lst (a_cons a_str a_nil))) a_nil))))
      (z_seq (z_set fun _ => (b_methX (c := 15) (by decide) (b_up fun _ => a_var) (b_upA fun _ => (a_cons a_var a_nil))))
      (z_seq (z_set fun _ => (b_methX (c := 15) (by decide) (b_up fun _ => a_var) (b_upA fun _ => (a_cons (a_fz (a_lc (vs := [6]) (i_list a_var) (g_name (by decide)) a_yes (a_fld T3.cl T3.n_name (c := 3) (i := 0) rfl a_var))) a_nil))))
      (z_seq (z_drop fun _ => (b_methX (c := 15) (by decide) (b_up fun _ => a_var) (b_upA fun _ => (a_cons (a_fz (a_lst (a_cons a_str a_nil))) a_nil))))
      (z_seq (z_set fun _ => (b_cel (b_lst (b_cons (b_methX (c := 15) (by decide) (b_up fun _ => a_var) (b_upA fun _ => (a_cons (a_fz (a_lst a_nil)) a_nil))) b_nil))))
      (z_seq (z_while (fun _ => (b_and (b_upVT 3 fun _ => (a_test (a_op pst_rv rok_B0 (a_b1 u_len (a_pk a_var)) a_int))) (b_tb (b_call (b_cons (b_meth2 (c := 15) (by decide) (b_up fun _ => a_var) (b_upA fun _ => a_nil)) b_nil))))) (z_appC (fun _ => (b_up fun _ => a_var)) (fun _ => (b_methX (c := 15) (by decide) (b_up fun _ => a_var) (b_cons (b_up fun _ => a_var) b_nil)))))
      (z_ret fun _ => (b_upV 3 fun _ => (a_tup (a_cons a_var (a_cons a_var (a_cons (a_b1 u_tupOf (a_pk a_var)) a_nil))))))))))))) (fun ds M X P a => by obtain ⟨_, _, _, _, _, rfl, _⟩ := a; exact Nat.le_of_ble_eq_true rfl) ?_⟩)
  rintro ds M X P ⟨r, ws, n, ks, cs, rfl, hM, ⟨lw, lx, lk, l3, hc⟩, bd, hx, hp⟩
  refine zseqG fun N hN => ?_
  walk_at "wq"
  rw [show M r = some (.obj 15 [.lst (ws.map .str), .int n]) from hM]
  refine ⟨rfl, ?_⟩
  refine ⟨r, _, ws, ["card"], n, rfl, hM, vw_l, lw, fun x e0 m => ?_, fun h => hx n ?_⟩
  rotate_left
  · rcases hc with rfl | hc
    · obtain ⟨s, rn, hf, hs⟩ := bd
      exact rn.stop hf fun x e => (hs x e).trans (by
        unfold stStart
        rw [if_neg (fun z => h x e (List.mem_singleton.mpr z.1)), if_neg (fun z => z.2.2.1 rfl)])
    · exact absurd (List.mem_singleton.mpr rfl) (h _ hc)
  obtain rfl := List.mem_singleton.mp m
  have rn1 : Rn ks ws (n + 1) (.name cs) := bd.to e0 (if_pos ⟨rfl, rfl, l3⟩)
  have sn : ∀ x, step ks (.name cs) x = if isNm x = true ∧ x ∉ cs.map (·.nm) then some (.kind cs x) else none := fun x => rfl
  clear bd hc m
  have hM1 : RdAt (Mv1 M r ws (n + 1)) r ws (n + 1) := Mv1.at_
  have mv1 : Moved M (Mv1 M r ws (n + 1)) r := Mv1.mv
  generalize Mv1 M r ws (n + 1) = M1 at hM1 mv1
  subst hN
  refine zseqG fun N hN => ?_
  walk_at "wq"
  rw [show M1 r = some (.obj 15 [.lst (ws.map .str), .int (n + 1 : Nat)]) from hM1]
  refine ⟨rfl, r, _, ws, cs.map (·.nm), n + 1, rfl, hM1, vw_l, ⟨lw, lx⟩, fun nm e1 n1 n2 => ?_, fun h => hx (n + 1) (rn1.stop rfl fun x e => (sn x).trans (if_neg fun z => z.2 (h x e z.1)))⟩
  have rn2 : Rn ks ws (n + 2) (.kind cs nm) := rn1.succ e1 ((sn nm).trans (if_pos ⟨n1, n2⟩))
  have sk : ∀ x, step ks (.kind cs nm) x = if x ∈ ks.map (·.1) then some (.frm cs nm x) else none := fun x => rfl
  have hM2 : RdAt (Mv1 M1 r ws (n + 1 + 1)) r ws (n + 2) := Mv1.at_
  have mv2 : Moved M (Mv1 M1 r ws (n + 1 + 1)) r := mv1.trans Mv1.mv
  generalize Mv1 M1 r ws (n + 1 + 1) = M2 at hM2 mv2
  subst hN
  refine zseqG fun N hN => ?_
  walk_at "wq"
  rw [show M2 r = some (.obj 15 [.lst (ws.map .str), .int (n + 2 : Nat)]) from hM2]
  refine ⟨rfl, by rw [List.length_map]; omega, ?_⟩
  refine lcA_mapL (g := fun k : Kd => Dat.str k.1) (fun k hk Q hQ => ?_) ?_
  · unfold kdP kdO
    walk_at "wq"
    exact hQ
  refine ⟨r, _, ws, ks.map (·.1), n + 2, by rw [List.map_map]; rfl, hM2, vw_l, lw, fun kn e2 k1 => ?_, fun h => hx (n + 2) (rn2.stop rfl fun x e => (sk x).trans (if_neg (h x e)))⟩
  have rn3 : Rn ks ws (n + 3) (.frm cs nm kn) := rn2.succ e2 ((sk kn).trans (if_pos k1))
  have sf : ∀ x, step ks (.frm cs nm kn) x = if x = "from" then some (.iss0 cs nm kn) else none := fun x => rfl
  have hM3 : RdAt (Mv1 M2 r ws (n + 2 + 1)) r ws (n + 3) := Mv1.at_
  have mv3 : Moved M (Mv1 M2 r ws (n + 2 + 1)) r := mv2.trans Mv1.mv
  generalize Mv1 M2 r ws (n + 2 + 1) = M3 at hM3 mv3
  subst hN
  refine zseqG fun N hN => ?_
  walk_at "wq"
  rw [show M3 r = some (.obj 15 [.lst (ws.map .str), .int (n + 3 : Nat)]) from hM3]
  refine ⟨rfl, r, _, ws, ["from"], n + 3, rfl, hM3, vw_l, lw, fun x e3 m => ?_, fun h => hx (n + 3) (rn3.stop rfl fun x e => (sf x).trans (if_neg fun z => h x e (List.mem_singleton.mpr z)))⟩
  obtain rfl := List.mem_singleton.mp m
  have rn4 : Rn ks ws (n + 4) (.iss0 cs nm kn) := rn3.succ e3 ((sf _).trans (if_pos rfl))
  have si : ∀ x, step ks (.iss0 cs nm kn) x = if isNm x = true then some (.iss cs ⟨nm, kn, [x]⟩) else none := fun x => rfl
  have hM4 : RdAt (Mv1 M3 r ws (n + 3 + 1)) r ws (n + 4) := Mv1.at_
  have mv4 : Moved M (Mv1 M3 r ws (n + 3 + 1)) r := mv3.trans Mv1.mv
  generalize Mv1 M3 r ws (n + 3 + 1) = M4 at hM4 mv4
  subst hN
  refine zseqG fun N hN => ?_
  walk_at "wq"
  rw [show M4 r = some (.obj 15 [.lst (ws.map .str), .int (n + 4 : Nat)]) from hM4]
  refine ⟨rfl, r, _, ws, [], n + 4, rfl, hM4, vw_l, ⟨lw, lx⟩, fun i0 e4 ni0 _ => ?_, fun h => hx (n + 4) (rn4.stop rfl fun x e => (si x).trans (if_neg (isNm_0 (h x e))))⟩
  have rn5 : Rn ks ws (n + 4 + 1) (.iss cs ⟨nm, kn, [i0]⟩) := rn4.succ e4 ((si _).trans (if_pos ni0))
  have ss : ∀ is x, step ks (.iss cs ⟨nm, kn, is⟩) x = if isNm x = true ∧ is.length < 3 then (if x ∈ is then none else some (.iss cs ⟨nm, kn, is ++ [x]⟩)) else stStart ks (cs ++ [⟨nm, kn, is⟩]) 0 x := fun is x => rfl
  have hM5 : RdAt (Mv1 M4 r ws (n + 4 + 1)) r ws (n + 4 + 1) := Mv1.at_
  have mv5 : Moved M (Mv1 M4 r ws (n + 4 + 1)) r := mv4.trans Mv1.mv
  generalize Mv1 M4 r ws (n + 4 + 1) = M5 at hM5 mv5
  clear hM1 hM2 hM3 hM4 mv1 mv2 mv3 mv4 M1 M2 M3 M4
  have hd4 : ∀ is : List Str, (∀ i, i < is.length → ws[n + 4 + i]? = is[i]?) → ∀ i, i < (cardW ⟨nm, kn, is⟩).length → ws[n + i]? = (cardW ⟨nm, kn, is⟩)[i]? := fun is h i hi => by
    match i, hi with
    | 0, _ => exact e0
    | 1, _ => exact e1
    | 2, _ => exact e2
    | 3, _ => exact e3
    | i + 4, hi =>
      rw [show n + (i + 4) = n + 4 + i by omega]
      exact h i (by have h2 : i + 4 < is.length + 1 + 1 + 1 + 1 := hi; omega)
  intro a ha
  have nar : a ≠ r := fun z => by
    rw [z, show M5 r = some (.obj 15 [.lst (ws.map .str), .int (n + 4 + 1 : Nat)]) from hM5] at ha
    cases ha
  have nam : M a = none := by
    cases e : M a with
    | none => rfl
    | some c =>
      have := mv5 a nar (by rw [e]; exact fun z => nomatch z)
      rw [ha, e] at this
      cases this
  subst hN
  refine zseqG fun N hN => ?_
  have hSt : ∃ W : Nat → List Sl → Sto → Prop, ∀ j env M', W j env M' ↔ ∃ (is : List Str), env = [Sl.d (.cell r), Sl.d (.lst (ks.map kdP)), Sl.d (.lst ((cs.map (·.nm)).map .str)), Sl.d (.str nm), Sl.d (.str kn), Sl.d (.cell a), Sl.u] ∧ is ≠ [] ∧ is.length + j = 3 ∧ is.Nodup ∧ (∀ x ∈ is, isNm x = true) ∧ (∀ i, i < is.length → ws[n + 4 + i]? = is[i]?) ∧ Rn ks ws (n + 4 + is.length) (.iss cs ⟨nm, kn, is⟩) ∧ RdAt M' r ws (n + 4 + is.length) ∧ M' a = some (.lst (is.map .str)) ∧ Moved M M' r := ⟨_, fun _ _ _ => Iff.rfl⟩
  obtain ⟨W, hW⟩ := hSt
  refine ⟨W, ⟨2, (hW _ _ _).mpr ⟨[i0], rfl, (fun z => nomatch z), rfl, List.nodup_cons.mpr ⟨List.not_mem_nil, List.nodup_nil⟩, fun x hx => by rw [List.mem_singleton.mp hx]; exact ni0, fun i hi => ?_, rn5, ?_, Sto.put_s, ?_⟩⟩, ?_⟩
  · obtain rfl : i = 0 := by have : i < 1 := hi; omega
    exact e4
  · show _ = _
    rw [Sto.put_n (Ne.symm nar)]
    exact hM5
  · intro y h1 h2
    rw [Sto.put_n (fun z => h2 (by rw [z]; exact nam))]
    exact mv5 y h1 h2
  clear hM5 mv5 rn5 rn4 rn3 rn2 rn1 ni0 e4
  intro j env M2 w
  obtain ⟨is, rfl, nei, lj, nd, al, hd, rni, hr2, ha2, mv2⟩ := (hW _ _ _).mp w
  clear w
  have fin : (∀ x, ws[n + 4 + is.length]? = some x → ¬ (isNm x = true ∧ is.length < 3)) → N [Sl.d (.cell r), Sl.d (.lst (ks.map kdP)), Sl.d (.lst ((cs.map (·.nm)).map .str)), Sl.d (.str nm), Sl.d (.str kn), Sl.d (.cell a), Sl.u] M2 := fun h => by
    subst hN
    walk_at "wq"
    rw [vw_lst ha2, show (is.map Dat.str).map (vwD 2 M2) = is.map .str from by rw [List.map_map]; rfl]
    have e : n + (cardW ⟨nm, kn, is⟩).length = n + 4 + is.length := by
      show n + (is.length + 1 + 1 + 1 + 1) = _
      omega
    refine ⟨ftAll_of fun x hx => (by obtain ⟨y, _, rfl⟩ := List.mem_map.mp hx; rfl), hp ⟨nm, kn, is⟩ M2 ⟨n1, n2, k1, nei, (show is.length ≤ 3 by omega), al, nd⟩ (hd4 is hd) ?_ mv2 (by rw [e]; exact hr2)⟩
    rw [e]
    exact Bd.iss rni h
  walk_at "wq"
  rw [vw_lst ha2, show (is.map Dat.str).map (vwD 2 M2) = is.map .str from by rw [List.map_map]; rfl]
  walk_at "wq"
  rw [List.length_map]
  refine twoD (fun l2 => ?_) (fun l2 => fin fun x _ z => by omega)
  rw [show M2 r = some (.obj 15 [.lst (ws.map .str), .int (n + 4 + is.length : Nat)]) from hr2]
  refine ⟨rfl, r, ws, _, rfl, hr2, lw, ?_⟩
  refine ⟨ws[n + 4 + is.length]?, rfl, fun x e => lx x (List.mem_of_getElem? e), ?_⟩
  cases e : ws[n + 4 + is.length]? with
  | none =>
    rw [show nmO none = false from rfl]
    walk_at "wq"
    exact fin fun x z => by rw [e] at z; cases z
  | some x =>
    rw [show nmO (some x) = isNm x from rfl]
    cases nx : isNm x with
    | false =>
      walk_at "wq"
      exact fin fun y z h => by rw [e] at z; cases z; rw [nx] at h; cases h.1
    | true =>
      walk_at "wq"
      rw [ha2, show M2 r = some (.obj 15 [.lst (ws.map .str), .int (n + 4 + is.length : Nat)]) from hr2]
      refine ⟨rfl, r, _, ws, is, _, rfl, hr2, by rw [vw_lst ha2, List.map_map]; rfl, ⟨lw, lx⟩, fun y e' _ ny => ?_, fun h => hx _ ⟨_, rni, ?_⟩⟩
      · rw [e] at e'
        obtain rfl := Option.some.inj e'
        have rnj := rni.succ e ((ss is x).trans ((if_pos ⟨nx, by omega⟩).trans (if_neg ny)))
        unfold Mv1
        rw [Sto.put_n nar, ha2]
        refine ⟨by rw [List.length_map]; omega, j - 1, by omega, (hW _ _ _).mpr ⟨is ++ [x], rfl, by simp, by rw [List.length_append, List.length_singleton]; omega, ?_, fun y hy => ?_, fun q hq => ?_, ?_, ?_, ?_, ?_⟩⟩
        · rw [List.nodup_append]
          exact ⟨nd, List.nodup_cons.mpr ⟨List.not_mem_nil, List.nodup_nil⟩, fun a ha b hb z => ny (by rw [← List.mem_singleton.mp hb, ← z]; exact ha)⟩
        · rcases List.mem_append.mp hy with hy | hy
          · exact al y hy
          · rw [List.mem_singleton.mp hy]
            exact nx
        · rw [List.length_append, List.length_singleton] at hq
          by_cases hq2 : q < is.length
          · rw [List.getElem?_append_left hq2]
            exact hd q hq2
          · obtain rfl : q = is.length := by omega
            rw [List.getElem?_append_right (Nat.le_refl _), Nat.sub_self]
            exact e
        · rw [List.length_append]
          exact rnj
        · show _ = _
          rw [Sto.put_n (Ne.symm nar), Sto.put_s, List.length_append]
          rfl
        · rw [Sto.put_s, List.map_append]
          rfl
        · intro y h1 h2
          rw [Sto.put_n (fun z => h2 (by rw [z]; exact nam)), Sto.put_n h1]
          exact mv2 y h1 h2
      · rw [e]
        exact (ss is x).trans ((if_pos ⟨nx, by omega⟩).trans (if_pos (h x e nx)))
end
section
variable {P : Program} {w : World} {K : PySem.W.Frag} {mg : Str → Option Value} {base : Heap} {ca : Nat → Addr} {gKW gCW : Addr}
def bspReadX : BSp := fun ds M X P => ∃ (t : Str) (ks : List Kd) (ws : List Str), ds = [.str t, .lst (ks.map kdP)] ∧ (KsA ks ∧ t.length ≤ 100000 ∧ Txt.split t " " = ws ∧ ws.length ≤ 1000 ∧ ∀ x ∈ ws, x.length ≤ 1000) ∧ (∀ m : Nat, Stop ks ws m → ∀ M', X 14 [.int m] M') ∧
  ∀ (cs : List Cd) (co : List Cnd) M', PolA ks cs co → polW cs co = ws → (∃ s, Rn ks ws ws.length s ∧ fnl s = true) → P (polC cs co) M'
/-- the cards as read -/
structure CsRd (ks : List Kd) (cs : List Cd) : Prop where
  l3 : cs.length ≤ 3
  nd : (cs.map (·.nm)).Nodup
  cd : ∀ c ∈ cs, CdA ks c
theorem CaFit.a {ks : List Kd} {tk : List Str} {c : Cd} (h : CaFit ks tk c) : CdA ks c := ⟨h.nm, h.kn, by
  have := h.ne
  cases e : c.is with
  | nil => exact absurd e this
  | cons _ _ => exact Nat.succ_le_succ (Nat.zero_le _), h.l3, h.nd, h.al⟩
theorem CsRd.snoc {ks : List Kd} {cs : List Cd} {c : Cd} (h : CsRd ks cs) (l : cs.length < 3) (f : CaFit ks (cs.map (·.nm)) c) : CsRd ks (cs ++ [c]) := by
  refine ⟨by rw [List.length_append, List.length_singleton]; omega, ?_, fun d hd => ?_⟩
  · rw [List.map_append, List.nodup_append]
    exact ⟨h.nd, List.nodup_cons.mpr ⟨List.not_mem_nil, List.nodup_nil⟩, fun a ha b hb z => f.nt (by rw [← show b = c.nm from List.mem_singleton.mp hb, ← z]; exact ha)⟩
  · rcases List.mem_append.mp hd with hd | hd
    · exact h.cd d hd
    · rw [List.mem_singleton.mp hd]
      exact f.a
theorem pre_app {ws a b : List Str} {n : Nat} (h : ws.take n = a) (hn : n = a.length) (h2 : ∀ i, i < b.length → ws[n + i]? = b[i]?) : ws.take (n + b.length) = a ++ b := by
  refine List.ext_getElem? fun i => ?_
  by_cases hi : i < n + b.length
  · rw [List.getElem?_take_of_lt hi]
    by_cases h3 : i < n
    · rw [List.getElem?_append_left (by omega), ← h, List.getElem?_take_of_lt h3]
    · rw [List.getElem?_append_right (by omega), ← hn, ← h2 (i - n) (by omega), show n + (i - n) = i by omega]
  · rw [List.getElem?_eq_none (by rw [List.length_take]; omega), List.getElem?_eq_none (by rw [List.length_append]; omega)]
theorem ok_read_policyX {f : Addr} {fd : FuncData} (F : Fun K "read_policy" "read_policy" s_read_policy f fd) (T3 : KdT K (ca 3)) (B : Blt mg) (G : GlP mg) (XM_BadText : XMk P w K mg base "BadText" (ca 14) "at") (MX_Reader : MakX P w K mg base 1 "Reader" (ca 15) (toSpI2 K ca 15 bspRdI)) (M_ahead : C8.Met P w K mg base 1 (ca 15) "ahead" (toSp2 K ca bspAhead) []) (T15 : RdT K (ca 15)) (X__read_card : CalX P w K mg base 5 "_read_card" (toSp2 K ca bspRCaX)) (C__values_of : C8.Cal P w K mg base 1 "_values_of" (toSp2 K ca bspValsOf) []) (X__read_condition : CalX P w K mg base 6 "_read_condition" (toSp2 K ca bspRCX)) (K_Policy : C8.Mak P w K mg base 2 "Policy" (ca 8) (toSpI K ca 8 aspPolI3) []) : FnOk P w K mg base (L2.CX P w) 7 f fd ["text", "kinds"] (toSp2 K ca bspReadX) := by
  refine F.okX sc_read_policy (fun vs H Q E h => sp_len2 (n := 2) (fun ds M X P a => by obtain ⟨_, _, _, rfl, _⟩ := a; rfl) h) (fun cdv A outer s H vs Q E hr h => ⟨_, (pss_cons (ps_set (i := 2) sc_read_policy.nd rfl (.inl rfl) (by exact (pe_mkX MX_Reader (takes_of rfl rfl rfl rfl) hr (by omega) rfl (pa_cons (pv 0) pa_nil))))
      (pss_cons (ps_set (i := 3) sc_read_policy.nd rfl (.inl rfl) (pe_lst (pa_cons (by exact (pe_cX X__read_card (takes_of rfl rfl rfl rfl) hr (by omega) rfl (pa_cons (pv 2) (pa_cons (pv 1) (pa_cons (pe_lst pa_nil) pa_nil))))) pa_nil)))
      (pss_cons (ps_while (passes_of rfl) (PW.pt (pw_and (pt_cmpR op_lt (pe_callB (klen (K := K) rfl) (by rfl) B.len bt_len (pa_cons (pv 3) pa_nil)) (pe_gint G.MOST_CARDS) (nomark _)) (pw_and1 (pt_cmpR op_eq (C8.pe_mt0 M_ahead hr (by omega) (pv 2)) pe_str (nomark _))))) (pss_cons (ps_setLc (i := 4) (own := [("name", 7), ("_", 8), ("_", 8)]) (tt := tYes) rfl sc_read_policy.nd rfl rfl (sw_true rfl rfl rfl (by decide +kernel)) (kpil (K := K) rfl (pv 3)) (blkOk_by (N := ["text", "kinds", "reader", "cards", "taken", "values", "conditions", "name", "_"]) (sc := defScope s_read_policy) (by decide +kernel))
        (fun _ _ _ _ _ => (kgtup (K := K) (n := 3) rfl rfl (pgs_cons (pg_name (i := 7) sc_read_policy.nd rfl (.inl rfl)) (pgs_cons (pg_name (i := 8) sc_read_policy.nd rfl (.inl rfl)) (pgs_cons (pg_name (i := 8) sc_read_policy.nd rfl (.inl rfl)) pgs_nil))))) (fun _ _ _ _ _ => pts_nil)
        (fun _ _ _ _ _ => (pv 7)))
      (pss_one (ps_expr (pe_bm PySem.F.plainAttrs_list PySem.F.slot_list_append PySem.F.type_list_append mt_append (pv 3) (pa_cons (by exact (pe_cX X__read_card (takes_of rfl rfl rfl rfl) hr (by omega) rfl (pa_cons (pv 2) (pa_cons (pv 1) (pa_cons (pv 4) pa_nil))))) pa_nil))))))
      (pss_cons (ps_set (i := 5) sc_read_policy.nd rfl (.inl rfl) (C8.pe_c C__values_of hr (by omega) rfl (pa_cons (pv 3) (pa_cons (pv 1) pa_nil))))
      (pss_cons (ps_set (i := 6) sc_read_policy.nd rfl (.inl rfl) (pe_lst pa_nil))
      (pss_cons (ps_while (passes_of rfl) (pt_cmpR op_notN (C8.pe_mt0 M_ahead hr (by omega) (pv 2)) pe_non (nomark _)) (pss_cons (ps_if (pt_cmpR op_eq (pe_callB (klen (K := K) rfl) (by rfl) B.len bt_len (pa_cons (pv 6) pa_nil)) (pe_gint G.MOST_CONDITIONS) (nomark _)) (pss_one (ps_raise rfl (takes_of rfl rfl rfl rfl) (pmk_x XM_BadText hr (by omega) rfl (pa_cons (kfld (K := K) rfl (pv 2)) pa_nil)))) pss_nil)
      (pss_one (ps_expr (pe_bm PySem.F.plainAttrs_list PySem.F.slot_list_append PySem.F.type_list_append mt_append (pv 6) (pa_cons (by exact (pe_cX X__read_condition (takes_of rfl rfl rfl rfl) hr (by omega) rfl (pa_cons (pv 2) (pa_cons (pv 5) pa_nil)))) pa_nil))))))
      (pss_one (ps_ret (C8.pe_mk K_Policy hr (by omega) rfl (pa_cons (pv 3) (pa_cons (pv 6) pa_nil))))))))))),
    fn_run2 h (fun po => (z_seq (z_set fun _ => (b_make3 (b_upA fun _ => (a_cons a_var a_nil))))
      (z_seq (z_set fun _ => (b_cel (b_lst (b_cons (b_callX (b_cons (b_up fun _ => a_var) (b_cons (b_up fun _ => a_var) (b_cons (b_up fun _ => (a_fz (a_lst a_nil))) b_nil)))) b_nil))))
      (z_seq (z_while (fun _ => (b_and (b_upVT 3 fun _ => (a_test (a_op pst_rv rok_B0 (a_b1 u_len (a_pk a_var)) a_int))) (b_test (b_op pst_rv2 cv_rv cv_rv rok_eq (b_meth2 (c := 15) (by decide) (b_up fun _ => a_var) (b_upA fun _ => a_nil)) (b_up fun _ => a_str))))) (z_seq (z_set fun _ => (b_fz (b_upVF 3 fun _ => (a_lc (vs := [7, 8, 8]) (i_list a_var) (g_tup (g_cons (g_name (by decide)) (g_cons (g_name (by decide)) (g_cons (g_name (by decide)) g_nil tot_name) tot_name) tot_name)) a_yes a_var))))
      (z_appC (fun _ => (b_up fun _ => a_var)) (fun _ => (b_callX (b_cons (b_up fun _ => a_var) (b_cons (b_up fun _ => a_var) (b_cons (b_up fun _ => a_var) b_nil))))))))
      (z_seq (z_set fun _ => (b_call2 (b_cons (b_up fun _ => a_var) (b_cons (b_up fun _ => a_var) b_nil))))
      (z_seq (z_set fun _ => (b_cel (b_upF fun _ => (a_lst a_nil))))
      (z_seq (z_while (fun _ => (b_test (b_op pst_rv2 cv_rv cv_rv rok_notN (b_meth2 (c := 15) (by decide) (b_up fun _ => a_var) (b_upA fun _ => a_nil)) (b_up fun _ => a_non)))) (z_seq (z_if (fun _ => (b_upVT 3 fun _ => (a_test (a_op pst_rv rok_eq (a_b1 u_len (a_pk a_var)) a_int)))) (z_raiseO rfl (fun _ => (b_cons (b_upV 3 fun _ => (a_fld T15.cl T15.n_at (c := 15) (i := 1) rfl a_var)) b_nil))) z_next)
      (z_appC (fun _ => (b_up fun _ => a_var)) (fun _ => (b_callX (b_cons (b_up fun _ => a_var) (b_cons (b_up fun _ => a_var) b_nil)))))))
      (z_stl (z_ret fun _ => (b_up fun _ => (a_make (a_cons a_var (a_cons a_var a_nil))))))))))))) (fun ds M X P a => by obtain ⟨_, _, _, rfl, _⟩ := a; exact Nat.le_of_ble_eq_true rfl) ?_⟩)
  rintro ds M0 X P ⟨t, ks, ws, rfl, ⟨kok, lt, hs, lw, lx⟩, hx, hp⟩
  have l8 := kok.l8
  refine zseqG fun N hN => ?_
  walk_at "wq"
  intro r _
  refine ⟨r, t, rfl, Sto.put_s, lt, rfl, ?_⟩
  rw [Sto.pp, hs]
  have hM : RdAt (Sto.put M0 r (some (.obj 15 [.lst (ws.map .str), .int 0]))) r ws 0 := Sto.put_s
  generalize Sto.put M0 r (some (.obj 15 [.lst (ws.map .str), .int 0])) = M at hM
  subst hN
  refine zseqG fun N hN => ?_
  walk_at "wq"
  refine ⟨r, ws, 0, ks, [], rfl, hM, ⟨lw, lx, by omega, Nat.succ_pos _, .inl rfl⟩, Bd.start .zero, hx, fun c0 M1 fit0 w0 bd0 mv1 hM1 => ?_⟩
  intro a ha
  have nar : a ≠ r := fun z => by
    rw [z, show M1 r = some _ from hM1] at ha
    cases ha
  have hM2 : RdAt (M1.put a (some (.lst [cdD c0]))) r ws (0 + (cardW c0).length) := by
    show _ = _
    rw [Sto.put_n (Ne.symm nar)]
    exact hM1
  have ha2 : (M1.put a (some (.lst [cdD c0]))) a = some (.lst [cdD c0]) := Sto.put_s
  generalize M1.put a (some (.lst [cdD c0])) = M2 at hM2 ha2
  clear hM hM1 mv1 ha M1 M
  subst hN
  refine zseqG fun N hN => ?_
  have hSt : ∃ W : Nat → List Sl → Sto → Prop, ∀ j env M', W j env M' ↔ ∃ (cs : List Cd) (t4 : Sl), env = [Sl.d (.str t), Sl.d (.lst (ks.map kdP)), Sl.d (.cell r), Sl.d (.cell a), t4, Sl.u, Sl.u, Sl.u, Sl.u] ∧ cs ≠ [] ∧ cs.length + j = 3 ∧ CsRd ks cs ∧ ws.take (cs.flatMap cardW).length = cs.flatMap cardW ∧ Bd ks ws (cs.flatMap cardW).length cs 0 ∧ RdAt M' r ws (cs.flatMap cardW).length ∧ M' a = some (.lst (cs.map cdD)) := ⟨_, fun _ _ _ => Iff.rfl⟩
  obtain ⟨W, hW⟩ := hSt
  have e1 : ([c0].flatMap cardW) = cardW c0 := List.flatMap_singleton _ _
  refine ⟨W, ⟨2, (hW _ _ _).mpr ⟨[c0], _, rfl, (fun z => nomatch z), rfl, CsRd.snoc (cs := []) ⟨Nat.zero_le _, List.nodup_nil, fun _ h => nomatch h⟩ (by decide) fit0, ?_, by rw [e1]; rw [Nat.zero_add] at bd0; exact bd0, by rw [e1]; rw [Nat.zero_add] at hM2; exact hM2, ha2⟩⟩, ?_⟩
  · rw [e1]
    have := pre_app (ws := ws) (a := []) (b := cardW c0) (n := 0) rfl rfl w0
    rw [Nat.zero_add] at this
    exact this
  clear hM2 ha2 M2 bd0 w0 fit0 e1
  intro j env M w
  obtain ⟨cs, t4, rfl, ncs, lj, crd, wt, bd, hM, hA⟩ := (hW _ _ _).mp w
  clear w
  have fin : (ws[(cs.flatMap cardW).length]? = some ("card" : Str) → 3 ≤ cs.length) → N [Sl.d (.str t), Sl.d (.lst (ks.map kdP)), Sl.d (.cell r), Sl.d (.cell a), t4, Sl.u, Sl.u, Sl.u, Sl.u] M := fun hcd => by
    clear hW W
    obtain ⟨vok, val⟩ := vals_ok kok crd.l3 crd.nd crd.cd
    subst hN
    refine zseqG fun N hN => ?_
    walk_at "wq"
    have hlk : ∀ c ∈ cs, ∃ fs, lkK c.kn ks = some fs ∧ fs.length ≤ 100 := fun c hc => by
      obtain ⟨k, mk, e⟩ := List.mem_map.mp (crd.cd c hc).kn
      exact ⟨k.2, by rw [← e]; exact lkK_nd kok.nd mk, by have := (kok.f4 k mk).1; omega⟩
    refine ⟨a, cs, ks, rfl, hA, ⟨by have := crd.l3; omega, by omega, hlk⟩, ?_⟩
    subst hN
    refine zseqG fun N hN => ?_
    walk_at "wq"
    intro b hb
    have nbr : b ≠ r := fun z => by
      rw [z, show M r = some _ from hM] at hb
      cases hb
    have nba : b ≠ a := fun z => by
      rw [z, hA] at hb
      cases hb
    have hM2 : RdAt (M.put b (some (.lst []))) r ws (cs.flatMap cardW).length := by
      show _ = _
      rw [Sto.put_n (Ne.symm nbr)]
      exact hM
    have hA2 : (M.put b (some (.lst []))) a = some (.lst (cs.map cdD)) := by
      rw [Sto.put_n (Ne.symm nba)]
      exact hA
    have hB2 : (M.put b (some (.lst []))) b = some (.lst []) := Sto.put_s
    generalize M.put b (some (.lst [])) = M2 at hM2 hA2 hB2
    clear hM hA hb M
    subst hN
    refine zseqG fun N hN => ?_
    have hSt : ∃ W : Nat → List Sl → Sto → Prop, ∀ j env M', W j env M' ↔ ∃ (co : List Cnd), env = [Sl.d (.str t), Sl.d (.lst (ks.map kdP)), Sl.d (.cell r), Sl.d (.cell a), t4, Sl.d (.lst ((valsO ks cs).map vlD)), Sl.d (.cell b), Sl.u, Sl.u] ∧ co.length + j = 6 ∧ (∀ x ∈ co, CnFit (valsO ks cs) x) ∧ ws.take (polW cs co).length = polW cs co ∧ Bd ks ws (polW cs co).length cs co.length ∧ RdAt M' r ws (polW cs co).length ∧ M' a = some (.lst (cs.map cdD)) ∧ M' b = some (.lst (co.map cndD)) := ⟨_, fun _ _ _ => Iff.rfl⟩
    obtain ⟨W, hW⟩ := hSt
    have e0 : polW cs [] = cs.flatMap cardW := List.append_nil _
    refine ⟨W, ⟨6, (hW _ _ _).mpr ⟨[], rfl, rfl, fun _ h => (nomatch h), by rw [e0]; exact wt, by rw [e0]; exact bd, by rw [e0]; exact hM2, hA2, hB2⟩⟩, ?_⟩
    clear hM2 hA2 hB2 M2 bd wt
    intro j env M w
    obtain ⟨co, rfl, lj, hco, wt, bd, hM, hA, hB⟩ := (hW _ _ _).mp w
    clear w
    walk_at "wq"
    rw [show M r = some (.obj 15 [.lst (ws.map .str), .int ((polW cs co).length : Nat)]) from hM]
    refine ⟨rfl, r, ws, _, rfl, hM, lw, ?_⟩
    cases ew : ws[(polW cs co).length]? with
    | none =>
      unfold optS
      walk_at "wq"
      have lw2 : ws.length ≤ (polW cs co).length := List.getElem?_eq_none_iff.mp ew
      have lw3 : (polW cs co).length = ws.length := by
        obtain ⟨s, rn, _⟩ := bd
        have := rn.le
        omega
      rw [lw3] at wt bd
      rw [List.take_length] at wt
      obtain ⟨s, rn, hf, _⟩ := bd
      have hf : fnl s = true := by
        rw [hf]
        cases cs with
        | nil => exact absurd rfl ncs
        | cons _ _ => rfl
      clear hW W
      subst hN
      refine ⟨[Sl.d (.str t), Sl.d (.lst (ks.map kdP)), Sl.d (.cell r), Sl.d (.lst (cs.map cdD)), t4, Sl.d (.lst ((valsO ks cs).map vlD)), Sl.d (.lst (co.map cndD)), Sl.u, Sl.u], ?_, ?_⟩
      · exact .cons (.inl rfl) (.cons (.inl rfl) (.cons (.inl rfl) (.cons (.inr ⟨1, _, rfl, by rw [vx_lst hA, show (cs.map cdD).map (vwX 0 M) = cs.map cdD from List.map_id _]⟩) (.cons (.inl rfl) (.cons (.inl rfl) (.cons (.inr ⟨1, _, rfl, by rw [vx_lst hB, show (co.map cndD).map (vwX 0 M) = co.map cndD from List.map_id _]⟩) (.cons (.inl rfl) (.cons (.inl rfl) .nil))))))))
      walk_at "wq"
      have l3 := crd.l3
      refine ⟨cs, co, rfl, ⟨by omega, by omega⟩, ?_⟩
      exact hp cs co _ ⟨by cases cs with
        | nil => exact absurd rfl ncs
        | cons _ _ => exact Nat.succ_le_succ (Nat.zero_le _), crd.l3, crd.nd, crd.cd, by omega, hco⟩ wt.symm ⟨s, rn, hf⟩
    | some x =>
      unfold optS
      walk_at "wq"
      refine zseqG fun N2 hN2 => ?_
      walk_at "wq"
      rw [vw_lst hB, show (co.map cndD).map (vwD 2 M) = co.map cndD from by rw [List.map_map]; exact List.map_congr_left fun x _ => by cases x <;> rfl]
      walk_at "wq"
      rw [List.length_map]
      refine twoD (fun e6 => ?_) (fun e6 => ?_)
      · rw [hM.vw]
        walk_at "wq"
        refine hx _ (bd.stop ew ?_) _
        unfold stStart
        rw [if_neg (fun z => by have := z.2.1; omega), if_neg (fun z => by have := z.2.1; omega)]
      subst hN2
      walk_at "wq"
      rw [hB]
      refine ⟨r, ws, _, ks, cs, co.length, rfl, hM, ⟨lw, vok, fun v hv => (val v hv).1, ncs, by omega, ⟨x, ew⟩, fun z => ?_⟩, bd, hx, fun y M1 fy wy bdy mv1 hM1 => ?_⟩
      · by_cases h0 : co.length = 0
        · obtain rfl := List.length_eq_zero_iff.mp h0
          rw [e0] at z
          exact .inr (hcd z)
        · exact .inl h0
      dsimp only
      rw [mv1 b nbr (by rw [hB]; exact fun z => nomatch z), hB]
      have ep : polW cs (co ++ [y]) = polW cs co ++ cndW y := by
        unfold polW
        rw [List.flatMap_append, List.flatMap_singleton, List.append_assoc]
      refine ⟨by rw [List.length_map]; omega, j - 1, by omega, (hW _ _ _).mpr ⟨co ++ [y], rfl, by rw [List.length_append, List.length_singleton]; omega, fun z hz => ?_, ?_, ?_, ?_, ?_, ?_⟩⟩
      · rcases List.mem_append.mp hz with hz | hz
        · exact hco z hz
        · rw [List.mem_singleton.mp hz]
          exact fy
      · rw [ep, List.length_append]
        exact pre_app wt rfl wy
      · rw [ep, List.length_append, List.length_append]
        exact bdy
      · show _ = _
        rw [Sto.put_n (Ne.symm nbr), ep, List.length_append]
        exact hM1
      · rw [Sto.put_n (Ne.symm nba), mv1 a nar (by rw [hA]; exact fun z => nomatch z)]
        exact hA
      · rw [Sto.put_s, List.map_append]
        rfl
  walk_at "wq"
  rw [vw_lst hA, show (cs.map cdD).map (vwD 2 M) = cs.map cdD from by rw [List.map_map]; rfl]
  walk_at "wq"
  rw [List.length_map]
  refine twoD (fun e3 => ?_) (fun e3 => fin fun _ => by omega)
  rw [show M r = some (.obj 15 [.lst (ws.map .str), .int ((cs.flatMap cardW).length : Nat)]) from hM]
  refine ⟨rfl, r, ws, _, rfl, hM, lw, ?_⟩
  cases ew : ws[(cs.flatMap cardW).length]? with
  | none =>
    unfold optS
    walk_at "wq"
    exact fin fun z => by rw [ew] at z; cases z
  | some y =>
    unfold optS
    walk_at "wq"
    refine twoD (fun ec => ?_) (fun ec => fin fun z => by rw [ew] at z; cases z; exact absurd rfl ec)
    have ec : y = "card" := ec
    subst ec
    refine zseqG fun N2 hN2 => ?_
    walk_at "wq"
    rw [vw_lst hA, show (cs.map cdD).map (vwD 2 M) = cs.map cdD from by rw [List.map_map]; rfl]
    walk_at "wq"
    refine ⟨by rw [List.length_map]; omega, ?_⟩
    refine lcA_mapL (g := fun c : Cd => Dat.str c.nm) (fun c hc Q hQ => ?_) ?_
    · rw [show cdD c = .tup [.str c.nm, .str c.kn, .tup (c.is.map .str)] from rfl]
      walk_at "wq"
      exact hQ
    refine ⟨ftAll_of fun x hx => (by obtain ⟨y, _, rfl⟩ := List.mem_map.mp hx; rfl), ?_⟩
    subst hN2
    walk_at "wq"
    rw [hA]
    refine ⟨r, ws, _, ks, cs, by rw [List.map_map]; rfl, hM, ⟨lw, lx, by omega, by omega, .inr ew⟩, bd, hx, fun c M1 fit wc bdc mv1 hM1 => ?_⟩
    have hA1 : M1 a = some (.lst (cs.map cdD)) := by rw [mv1 a nar (by rw [hA]; exact fun z => nomatch z), hA]
    dsimp only
    rw [hA1]
    have ep : (cs ++ [c]).flatMap cardW = cs.flatMap cardW ++ cardW c := by rw [List.flatMap_append, List.flatMap_singleton]
    refine ⟨by rw [List.length_map]; omega, j - 1, by omega, (hW _ _ _).mpr ⟨cs ++ [c], _, rfl, by simp, by rw [List.length_append, List.length_singleton]; omega, crd.snoc (by omega) fit, ?_, ?_, ?_, ?_⟩⟩
    · rw [ep, List.length_append]
      exact pre_app wt rfl wc
    · rw [ep, List.length_append]
      exact bdc
    · show _ = _
      rw [Sto.put_n (Ne.symm nar), ep, List.length_append]
      exact hM1
    · rw [Sto.put_s, List.map_append]
      rfl
end
abbrev s__law_is_name : Stmt := top 43
theorem sc__law_is_name : FnScope ["word", "char"] ["word"] (defScope s__law_is_name) := ⟨rfl, rfl, rfl, by decide +kernel, rfl, by decide +kernel, by decide +kernel⟩
abbrev s__law_is_number : Stmt := top 44
theorem sc__law_is_number : FnScope ["word", "least", "most", "char"] ["word", "least", "most"] (defScope s__law_is_number) := ⟨rfl, rfl, rfl, by decide +kernel, rfl, by decide +kernel, by decide +kernel⟩
theorem lt_rng : ltS.cps.toList = List.range' 97 26 := by decide +kernel
theorem lt_mem {c : Nat} : decide (c ∈ ltS.cps.toList) = (decide (97 ≤ c) && decide (c ≤ 122)) := by
  rw [lt_rng, Bool.eq_iff_iff, Bool.and_eq_true, decide_eq_true_eq, decide_eq_true_eq, decide_eq_true_eq, List.mem_range'_1]
  omega
theorem sgn_map {x : Str} : (signs x).map Dat.str = x.cps.toList.map fun c => Dat.str ⟨#[c]⟩ := by
  unfold signs
  rw [List.map_map]
  rfl
theorem cps_len {x : Str} : x.cps.toList.length = x.length := Array.length_toList
theorem le_sgn {a : Nat} {y : Str} {c : Nat} (h : y.cps.toList = [a]) : (!decide ((⟨#[c]⟩ : Str).cps.toList < y.cps.toList)) = decide (a ≤ c) := by
  rw [h]
  exact sign_le
theorem sgn_le {a : Nat} {y : Str} {c : Nat} (h : y.cps.toList = [a]) : (!decide (y.cps.toList < (⟨#[c]⟩ : Str).cps.toList)) = decide (c ≤ a) := by
  rw [h]
  exact sign_le
/-- words of one or two digits -/
def digs : List Str := ((List.range 10).map fun i => ⟨#[48 + i]⟩) ++ ((List.range 100).map fun i => ⟨#[48 + i / 10, 48 + i % 10]⟩)
theorem digs_ok : digs.all (fun x => match PySem.intText? x with
    | some k => decide (0 ≤ k ∧ k < 100)
    | none => false) = true := by decide +kernel
def isDg (c : Nat) : Bool := decide (48 ≤ c) && decide (c ≤ 57)
theorem txt_dig : (List.range 100).all (fun k => (toString ((k : Nat) : Int) : Str).cps.toList.all isDg && (decide (0 < (toString ((k : Nat) : Int) : Str).length) && decide ((toString ((k : Nat) : Int) : Str).length < 3))) = true := by decide +kernel
theorem wrt_dig {lo hi : Int} {x : Str} (h0 : 0 ≤ lo) (h1 : hi ≤ 100) (m : x ∈ wrt lo hi) : x.cps.toList.all isDg = true ∧ 0 < x.length ∧ x.length < 3 := by
  obtain ⟨j, j0, j1, rfl⟩ := wrt_ex m
  obtain ⟨n, rfl⟩ := Int.eq_ofNat_of_zero_le (show 0 ≤ j by omega)
  have := List.all_eq_true.mp txt_dig n (List.mem_range.mpr (by omega))
  rw [Bool.and_eq_true, Bool.and_eq_true] at this
  exact ⟨this.1, of_decide_eq_true this.2.1, of_decide_eq_true this.2.2⟩
theorem str_eta {x : Str} {l : List Nat} (h : x.cps.toList = l) : x = ⟨l.toArray⟩ := by
  cases x with
  | mk a =>
    rw [← h]
theorem dig_mem {x : Str} (l0 : 0 < x.length) (l1 : x.length < 3) (h : x.cps.toList.all isDg = true) : x ∈ digs := by
  have hl := cps_len (x := x)
  have hd : ∀ c, isDg c = true → ∃ i, i < 10 ∧ c = 48 + i := fun c h => by
    unfold isDg at h
    rw [Bool.and_eq_true, decide_eq_true_eq, decide_eq_true_eq] at h
    exact ⟨c - 48, by omega, by omega⟩
  unfold digs
  cases e : x.cps.toList with
  | nil =>
    rw [e] at hl
    have : 0 = x.length := hl
    omega
  | cons a t =>
    rw [e, List.all_cons, Bool.and_eq_true] at h
    obtain ⟨i, hi, rfl⟩ := hd a h.1
    cases t with
    | nil => exact List.mem_append.mpr (.inl (List.mem_map.mpr ⟨i, List.mem_range.mpr hi, (str_eta e).symm⟩))
    | cons b t =>
      rw [List.all_cons, Bool.and_eq_true] at h
      obtain ⟨j, hj, rfl⟩ := hd b h.2.1
      cases t with
      | nil => exact List.mem_append.mpr (.inr (List.mem_map.mpr ⟨10 * i + j, List.mem_range.mpr (by omega), by rw [str_eta e, show (10 * i + j) / 10 = i by omega, show (10 * i + j) % 10 = j by omega]⟩))
      | cons c t =>
        rw [e] at hl
        have : t.length + 1 + 1 + 1 = x.length := hl
        omega
theorem dig_int {x : Str} (m : x ∈ digs) : ∃ k : Int, PySem.intText? x = some k ∧ 0 ≤ k ∧ k < 100 := by
  have := List.all_eq_true.mp digs_ok x m
  cases e : PySem.intText? x with
  | none =>
    rw [e] at this
    cases this
  | some k =>
    rw [e] at this
    have := of_decide_eq_true this
    exact ⟨k, rfl, this.1, this.2⟩
section
variable {P : Program} {w : World} {K : PySem.W.Frag} {mg : Str → Option Value} {base : Heap} {ca : Nat → Addr} {gKW gCW : Addr}
def aspLIsName : ASp := fun ds P => ∃ x : Str, ds = [.str x] ∧ x.length ≤ 1000 ∧ P (.bl (isNm x))
theorem ok_law_is_name {f : Addr} {fd : FuncData} (F : Fun K "_law_is_name" "_law_is_name" s__law_is_name f fd) (B : Blt mg) : FnOk P w K mg base CX0 1 f fd ["word"] (toSp K ca aspLIsName) := by
  refine F.ok sc__law_is_name (fun vs H Q E h => sp_len (n := 1) (fun ds P a => by obtain ⟨_, rfl, _⟩ := a; rfl) h) (fun cdv A outer s H vs Q E hr h => ⟨_, (pss_cons (ps_if (PW.pt (pw_or (pt_not (pt_chain op_lt op_lt pe_int (pe_callB call_len_str (by rfl) B.len bt_len (pa_cons (pv 0) pa_nil)) pe_int)) (pw_or1 (pt_cmpR (kin (K := K) rfl) (pv 0) (pe_tupF (pa_cons pe_str (pa_cons pe_str (pa_cons pe_str (pa_cons pe_str (pa_cons pe_str (pa_cons pe_str (pa_cons pe_str pa_nil)))))))) rfl)))) (pss_one (ps_ret pe_bl)) pss_nil)
      (pss_cons (ps_for PassesOwn.never rfl (pi_str (pv 0)) (pg_name (i := 1) sc__law_is_name.nd rfl (.inl rfl))
      (pss_one (ps_if (pt_not (pt_chain op_le_str op_le_str pe_str (pv 1) pe_str)) (pss_one (ps_ret pe_bl)) pss_nil)))
      (pss_one (ps_ret pe_bl)))),
    fn_run h (fun po => (s_seq (s_if (fun _ => (a_or (a_not (a_test (a_chain rok_B0 rok_B0 a_int (a_b1 u_lenS a_var) a_int))) (a_test (a_op pst_rv rok_in a_var (a_pk (a_tup (a_cons a_str (a_cons a_str (a_cons a_str (a_cons a_str (a_cons a_str (a_cons a_str (a_cons a_str a_nil))))))))))))) (s_ret fun _ => a_bl) s_next)
      (s_seq (s_for (vs := [1]) (fun _ => (i_sgn a_var)) (fun _ => (g_name (by decide)))
      (s_if (fun _ => (a_not (a_test (a_chain rok_leS rok_leS a_str a_var a_str)))) (s_ret fun _ => a_bl) s_next))
      (s_ret fun _ => a_bl)))) (fun ds P a => by obtain ⟨_, rfl, _⟩ := a; exact Nat.le_of_ble_eq_true rfl) ?_⟩)
  rintro ds P ⟨x, rfl, hl, hp⟩
  refine seqG fun N hN => ?_
  walk_at "dw"
  have ltA : (Str.ofString "a").cps.toList = [97] := by decide
  have ltZ : (Str.ofString "z").cps.toList = [122] := by decide
  have no : isNm x = false → P (.bl false) := fun e => by rw [e] at hp; exact hp
  refine ⟨by omega, ?_⟩
  refine twoD (fun e1 => ?_) (fun e1 => no ?_)
  · refine twoN (fun e2 => no ?_) (fun e2 => ?_)
    · unfold isNm
      rw [decide_eq_false (show ¬ x.length ≤ 8 by omega), Bool.and_false, Bool.and_false, Bool.false_and]
    refine (show kIn false (.str x) (.tup (kwS.map .str)) _ from kIn_sT ?_)
    walk_at "dw"
    refine twoD (fun e3 => no ?_) (fun e3 => ?_)
    · unfold isNm
      rw [decide_eq_true e3, Bool.not_true, Bool.false_and, Bool.false_and]
    have e : isNm x = x.cps.toList.all fun c => decide (c ∈ ltS.cps.toList) := by
      unfold isNm
      rw [decide_eq_false e3, decide_eq_true (show 1 ≤ x.length by omega), decide_eq_true (show x.length ≤ 8 by omega)]
      rfl
    rw [e] at hp no
    subst hN
    refine seqG fun N hN => ?_
    walk_at "dw"
    rw [sgn_map]
    have hSt : ∃ W : List Nat → List Sl → Prop, ∀ xs env, W xs env ↔ ∃ t, env = [Sl.d (.str x), t] ∧ x.cps.toList.all (fun c => decide (c ∈ ltS.cps.toList)) = xs.all fun c => decide (c ∈ ltS.cps.toList) := ⟨_, fun _ _ => Iff.rfl⟩
    obtain ⟨W, hW⟩ := hSt
    refine forA_suf (f := fun c => Dat.str ⟨#[c]⟩) W (fun c xs env w N2 hN2 => ?_) (fun env w => ?_) _ _ ((hW _ _).mpr ⟨_, rfl, rfl⟩)
    · obtain ⟨t, rfl, ea⟩ := (hW _ _).mp w
      rw [List.all_cons, lt_mem] at ea
      walk_at "dw"
      rw [kLeS_s, le_sgn ltA]
      walk_at "dw"
      refine twoD (fun h1 => ?_) (fun h1 => no (by rw [ea, decide_eq_false h1]; rfl))
      rw [kLeS_s, sgn_le ltZ]
      walk_at "dw"
      refine twoN (fun h2 => no (by rw [ea, decide_eq_false h2, Bool.and_false]; rfl)) (fun h2 => ?_)
      exact hN2 _ ((hW _ _).mpr ⟨_, rfl, by rw [ea, decide_eq_true h1, decide_eq_true h2]; rfl⟩)
    · obtain ⟨t, rfl, ea⟩ := (hW _ _).mp w
      rw [ea] at hp
      show N _
      subst hN
      walk_at "dw"
      exact hp
  · unfold isNm
    rw [decide_eq_false (show ¬ 1 ≤ x.length by omega), Bool.false_and, Bool.and_false, Bool.false_and]
def aspLIsNum : ASp := fun ds P => ∃ (x : Str) (lo hi : Int), ds = [.str x, .int lo, .int hi] ∧ (x.length ≤ 1000 ∧ 0 ≤ lo ∧ hi ≤ 99) ∧ P (.bl (decide (x ∈ wrt lo (hi + 1))))
theorem ok_law_is_number {f : Addr} {fd : FuncData} (F : Fun K "_law_is_number" "_law_is_number" s__law_is_number f fd) (B : Blt mg) : FnOk P w K mg base CX0 1 f fd ["word", "least", "most"] (toSp K ca aspLIsNum) := by
  refine F.ok sc__law_is_number (fun vs H Q E h => sp_len (n := 3) (fun ds P a => by obtain ⟨_, _, _, rfl, _⟩ := a; rfl) h) (fun cdv A outer s H vs Q E hr h => ⟨_, (pss_cons (ps_if (pt_not (pt_chain op_lt op_lt pe_int (pe_callB call_len_str (by rfl) B.len bt_len (pa_cons (pv 0) pa_nil)) pe_int)) (pss_one (ps_ret pe_bl)) pss_nil)
      (pss_cons (ps_for PassesOwn.never rfl (pi_str (pv 0)) (pg_name (i := 3) sc__law_is_number.nd rfl (.inl rfl))
      (pss_one (ps_if (pt_not (pt_chain op_le_str op_le_str pe_str (pv 3) pe_str)) (pss_one (ps_ret pe_bl)) pss_nil)))
      (pss_one (ps_ret (pe_and (pe_cmpR op_eq (pe_callTy call_str_int (by rfl) B.str bt_str (pa_cons (pe_callTy call_int_str (by rfl) B.int bt_int (pa_cons (pv 0) pa_nil)) pa_nil)) (pv 0) (nomark _)) (pe_one (pe_chain op_le op_le (pv 1) (pe_callTy call_int_str (by rfl) B.int bt_int (pa_cons (pv 0) pa_nil)) (pv 2)))))))),
    fn_run h (fun po => (s_seq (s_if (fun _ => (a_not (a_test (a_chain rok_B0 rok_B0 a_int (a_b1 u_lenS a_var) a_int)))) (s_ret fun _ => a_bl) s_next)
      (s_seq (s_for (vs := [3]) (fun _ => (i_sgn a_var)) (fun _ => (g_name (by decide)))
      (s_if (fun _ => (a_not (a_test (a_chain rok_leS rok_leS a_str a_var a_str)))) (s_ret fun _ => a_bl) s_next))
      (s_ret fun _ => (a_andV (a_op pst_rv rok_eq (a_b1 u_str (a_b1 u_intS a_var)) a_var) (a_chain rok_B0 rok_B0 a_var (a_b1 u_intS a_var) a_var)))))) (fun ds P a => by obtain ⟨_, _, _, rfl, _⟩ := a; exact Nat.le_of_ble_eq_true rfl) ?_⟩)
  rintro ds P ⟨x, lo, hi, rfl, ⟨hl, l0, h9⟩, hp⟩
  have dg0 : (Str.ofString "0").cps.toList = [48] := by decide
  have dg9 : (Str.ofString "9").cps.toList = [57] := by decide
  have no : (x.cps.toList.all isDg = true → 0 < x.length → x.length < 3 → False) → P (.bl false) := fun h => by
    rw [decide_eq_false (fun m => (by obtain ⟨a, b, c⟩ := wrt_dig l0 (by omega) m; exact h a b c))] at hp
    exact hp
  refine seqG fun N hN => ?_
  walk_at "dw"
  refine ⟨by omega, ?_⟩
  refine twoD (fun e1 => ?_) (fun e1 => no fun _ _ _ => by omega)
  refine twoN (fun e2 => no fun _ _ _ => by omega) (fun e2 => ?_)
  subst hN
  refine seqG fun N hN => ?_
  walk_at "dw"
  rw [sgn_map]
  have hSt : ∃ W : List Nat → List Sl → Prop, ∀ xs env, W xs env ↔ ∃ t, env = [Sl.d (.str x), Sl.d (.int lo), Sl.d (.int hi), t] ∧ x.cps.toList.all isDg = xs.all isDg := ⟨_, fun _ _ => Iff.rfl⟩
  obtain ⟨W, hW⟩ := hSt
  refine forA_suf (f := fun c => Dat.str ⟨#[c]⟩) W (fun c xs env w N2 hN2 => ?_) (fun env w => ?_) _ _ ((hW _ _).mpr ⟨_, rfl, rfl⟩)
  · obtain ⟨t, rfl, ea⟩ := (hW _ _).mp w
    rw [List.all_cons, show isDg c = (decide (48 ≤ c) && decide (c ≤ 57)) from rfl] at ea
    walk_at "dw"
    rw [kLeS_s, le_sgn dg0]
    walk_at "dw"
    refine twoD (fun h1 => ?_) (fun h1 => no fun z _ _ => by rw [ea, decide_eq_false h1] at z; cases z)
    rw [kLeS_s, sgn_le dg9]
    walk_at "dw"
    refine twoN (fun h2 => no fun z _ _ => by rw [ea, decide_eq_false h2, Bool.and_false] at z; cases z) (fun h2 => ?_)
    exact hN2 _ ((hW _ _).mpr ⟨_, rfl, by rw [ea, decide_eq_true h1, decide_eq_true h2]; rfl⟩)
  · obtain ⟨t, rfl, ea⟩ := (hW _ _).mp w
    obtain ⟨k, ek, k0, k1⟩ := dig_int (dig_mem (by omega) (by omega) ea)
    have key : decide (x ∈ wrt lo (hi + 1)) = (decide ((toString k : Str) = x) && (decide (lo ≤ k) && decide (k ≤ hi))) := by
      rw [Bool.eq_iff_iff, Bool.and_eq_true, Bool.and_eq_true, decide_eq_true_eq, decide_eq_true_eq, decide_eq_true_eq, decide_eq_true_eq]
      constructor
      · intro m
        obtain ⟨j, j0, j1, rfl⟩ := wrt_ex m
        rw [(txt_at (k := j) (by omega) (by omega)).1] at ek
        obtain rfl := Option.some.inj ek
        exact ⟨rfl, j0, by omega⟩
      · rintro ⟨rfl, a, b⟩
        exact (wrt_mem l0 (by omega) k0 k1).mpr ⟨a, by omega⟩
    rw [key] at hp
    show N _
    subst hN
    walk_at "dw"
    unfold kIntS
    dsimp only
    rw [ek]
    dsimp only
    refine ⟨by omega, ?_⟩
    walk_at "dw"
    refine ⟨by omega, ?_⟩
    refine twoD (fun h1 => ?_) (fun h1 => ?_)
    · rw [decide_eq_true h1, Bool.true_and] at hp
      refine ⟨by omega, ?_⟩
      refine twoD (fun h2 => ?_) (fun h2 => ?_)
      · rw [decide_eq_true h2, Bool.true_and] at hp
        exact hp
      · rw [decide_eq_false h2] at hp
        exact hp
    · rw [decide_eq_false h1] at hp
      exact hp
end
theorem kIn_nsT {x : Str} {xs : List Str} {P : Dat → Prop} (h : P (.bl (!decide (x ∈ xs)))) : kIn true (.str x) (.tup (xs.map .str)) P := by
  refine ⟨rfl, List.all_eq_true.mpr fun d hd => (by obtain ⟨x, _, rfl⟩ := List.mem_map.mp hd; rfl), fun c hc => ?_⟩
  have e : c = decide (x ∈ xs) := by
    rw [Bool.eq_iff_iff, hc, decide_eq_true_eq]
    constructor
    · intro m
      obtain ⟨y, hy, e⟩ := List.mem_map.mp m
      cases e
      exact hy
    · exact fun m => List.mem_map.mpr ⟨x, m, rfl⟩
  rw [if_pos rfl, e]
  exact h
theorem kIn_nsL {x : Str} {xs : List Str} {P : Dat → Prop} (h : P (.bl (!decide (x ∈ xs)))) : kIn true (.str x) (.lst (xs.map .str)) P := kIn_nsT h
section
variable {P : Program} {w : World} {K : PySem.W.Frag} {mg : Str → Option Value} {base : Heap} {ca : Nat → Addr} {gKW gCW : Addr}
def bspLPrC : BSp := fun ds M X P => ∃ (ac : Addr) (ks : List Kd) (cs : List Cd), ds = [.lst (ks.map kdT), .cell ac] ∧ M ac = some (.lst (cs.map cdD)) ∧ (KsA ks ∧ cs.length ≤ 3 ∧ ∀ c ∈ cs, c.kn ∈ ks.map (·.1)) ∧ P (.lst ((valsO ks cs).map prV)) M
theorem ok_law_pairsC {f : Addr} {fd : FuncData} (F : Fun K "_law_pairs" "_law_pairs" s__law_pairs f fd) (B : Blt mg) : FnOk P w K mg base CX0 1 f fd ["kinds", "cards"] (toSp2 K ca bspLPrC) := by
  refine F.ok sc__law_pairs (fun vs H Q E h => sp_len2 (n := 2) (fun ds M X P a => by obtain ⟨_, _, _, rfl, _⟩ := a; rfl) h) (fun cdv A outer s H vs Q E hr h => ⟨_, (pss_cons (ps_set (i := 2) sc__law_pairs.nd rfl (.inl rfl) (pe_lst pa_nil))
      (pss_cons (ps_for PassesOwn.never rfl (kpil (K := K) rfl (pv 1)) (kgtup (K := K) (n := 3) rfl rfl (pgs_cons (pg_name (i := 3) sc__law_pairs.nd rfl (.inr rfl)) (pgs_cons (pg_name (i := 4) sc__law_pairs.nd rfl (.inr rfl)) (pgs_cons (pg_name (i := 5) sc__law_pairs.nd rfl (.inl rfl)) pgs_nil))))
      (pss_cons (ps_set (i := 6) sc__law_pairs.nd rfl (.inl rfl) (pe_ix (kixs (K := K) rfl) (pe_lc (own := [("own", 7), ("fields", 6)]) rfl sc__law_pairs.nd (kpil (K := K) rfl (pv 0)) (blkOk_by (N := ["kinds", "cards", "found", "name", "kind", "issuers", "fields", "own", "field", "size"]) (sc := defScope s__law_pairs) (by decide +kernel))
        (fun _ _ _ _ _ => (kgtup (K := K) (n := 2) rfl rfl (pgs_cons (pg_name (i := 7) sc__law_pairs.nd rfl (.inl rfl)) (pgs_cons (pg_name (i := 6) sc__law_pairs.nd rfl (.inl rfl)) pgs_nil)))) (fun _ _ _ _ _ => pts_one (pt_cmpR op_eq (pv 7) (pv 4) (nomark _)))
        (fun _ _ _ _ _ => (pv 6))) pe_int (fun _ _ => rfl)))
      (pss_one (ps_set (i := 2) sc__law_pairs.nd rfl (.inl rfl) (pe_op op_cat (pv 2) (pe_lc (own := [("field", 8), ("size", 9)]) (tt := tYes) rfl sc__law_pairs.nd (kpit (K := K) rfl (pv 6)) (blkOk_by (N := ["kinds", "cards", "found", "name", "kind", "issuers", "fields", "own", "field", "size"]) (sc := defScope s__law_pairs) (by decide +kernel))
        (fun _ _ _ _ _ => (kgtup (K := K) (n := 2) rfl rfl (pgs_cons (pg_name (i := 8) sc__law_pairs.nd rfl (.inl rfl)) (pgs_cons (pg_name (i := 9) sc__law_pairs.nd rfl (.inl rfl)) pgs_nil)))) (fun _ _ _ _ _ => pts_nil)
        (fun _ _ _ _ _ => (pe_tupF (pa_cons (pe_tupF (pa_cons (pv 3) (pa_cons (pv 8) pa_nil))) (pa_cons (pv 9) pa_nil))))))))))
      (pss_one (ps_ret (pv 2))))),
    fn_run2 h (fun po => (z_seq (z_set fun _ => (b_up fun _ => (a_fz (a_lst a_nil))))
      (z_seq (z_forC (vs := [3, 4, 5]) (fun _ => (b_up fun _ => a_var)) (fun _ => (g_tup (g_cons (g_name (by decide)) (g_cons (g_name (by decide)) (g_cons (g_name (by decide)) g_nil tot_name) tot_name) tot_name)))
      (z_seq (z_set fun _ => (b_up fun _ => (a_op pst_pk rok_ix (a_pk (a_fz (a_lc (vs := [7, 6]) (i_list a_var) (g_tup (g_cons (g_name (by decide)) (g_cons (g_name (by decide)) g_nil tot_name) tot_name)) (a_test (a_op pst_rv rok_eq a_var a_var)) a_var))) a_int)))
      (z_set fun _ => (b_up fun _ => (a_fz (a_opF pst_pk rok_catL (a_pk a_var) (a_pk (a_fz (a_lc (vs := [8, 9]) (i_tup a_var) (g_tup (g_cons (g_name (by decide)) (g_cons (g_name (by decide)) g_nil tot_name) tot_name)) a_yes (a_tup (a_cons (a_tup (a_cons a_var (a_cons a_var a_nil))) (a_cons a_var a_nil))))))))))))
      (z_ret fun _ => (b_up fun _ => a_var))))) (fun ds M X P a => by obtain ⟨_, _, _, rfl, _⟩ := a; exact Nat.le_of_ble_eq_true rfl) ?_⟩)
  rintro ds M X P ⟨ac, ks, cs, rfl, hM, ⟨kok, l3, hk⟩, hp⟩
  refine zseqG fun N hN => ?_
  walk_at "wq"
  subst hN
  refine zseqG fun N hN => ?_
  unfold zForC
  walk_at "wq"
  rw [hM]
  have hSt : ∃ W : List Cd → List Sl → Sto → Prop, ∀ xs env M', W xs env M' ↔ ∃ (dn : List Cd) (t3 t4 t5 t6 t7 t8 t9 : Sl), env = [Sl.d (.lst (ks.map kdT)), Sl.d (.cell ac), Sl.d (.lst ((valsO ks dn).map prV)), t3, t4, t5, t6, t7, t8, t9] ∧ dn ++ xs = cs ∧ M' = M := ⟨_, fun _ _ _ => Iff.rfl⟩
  obtain ⟨W, hW⟩ := hSt
  have lv : ∀ dn : List Cd, (∀ c ∈ dn, c.kn ∈ ks.map (·.1)) → (valsO ks dn).length ≤ dn.length * 4 := fun dn h => fm_len fun c hc => by
    obtain ⟨k, mk, ek⟩ := List.mem_map.mp (h c hc)
    have := (kok.f4 k mk).1
    unfold valsC
    rw [← ek, lkK_nd kok.nd mk, List.length_map]
    exact this
  have l8 := kok.l8
  refine (show forC _ _ _ _ _ (cs.map cdD) _ _ from ?_)
  refine forC_suf (f := cdD) W ?_ ?_ cs _ _ ((hW _ _ _).mpr ⟨[], _, _, _, _, _, _, _, rfl, rfl, rfl⟩)
  · intro c xs env M' w N2 hN2
    obtain ⟨dn, t3, t4, t5, t6, t7, t8, t9, rfl, edn, rfl⟩ := (hW _ _ _).mp w
    clear w
    have mc : c ∈ cs := by rw [← edn]; exact List.mem_append.mpr (.inr List.mem_cons_self)
    have ldn : dn.length ≤ 3 := by
      have := congrArg List.length edn
      rw [List.length_append] at this
      omega
    have ld := lv dn fun c hc => hk c (by rw [← edn]; exact List.mem_append.mpr (.inl hc))
    obtain ⟨kk, mk, ek⟩ := List.mem_map.mp (hk c mc)
    have f4 := kok.f4 kk mk
    rw [show cdD c = .tup [.str c.nm, .str c.kn, .tup (c.is.map .str)] from rfl]
    walk_at "wq"
    refine zseqG fun N3 hN3 => ?_
    walk_at "wq"
    refine ⟨by rw [List.length_map]; omega, ?_⟩
    refine lcA_filL (g := fun z : Kd => Dat.tup (z.2.map fmD)) (fun z => decide (z.1 = c.kn)) (fun z hz Q q1 q2 => ?_) ?_
    · unfold kdT
      walk_at "wq"
      exact twoD (fun e => q1 (decide_eq_true e)) (fun e => q2 (decide_eq_false e))
    rw [← ek, filt_nd kok.nd mk]
    walk_at "wq"
    subst hN3
    walk_at "wq"
    refine ⟨by rw [List.length_map]; omega, ?_⟩
    refine lcA_mapL (g := fun f : Fld => prV ⟨c.nm, f.1, f.2⟩) (fun f hf Q hQ => ?_) ?_
    · unfold fmD
      walk_at "wq"
      exact hQ
    refine ⟨by rw [List.length_map, List.length_map]; omega, ?_⟩
    have e : (valsO ks dn).map prV ++ (kk.2.map fun f : Fld => prV ⟨c.nm, f.1, f.2⟩) = (valsO ks (dn ++ [c])).map prV := by
      unfold valsO
      rw [List.flatMap_append, List.flatMap_singleton, List.map_append]
      congr 1
      unfold valsC
      rw [← ek, lkK_nd kok.nd mk, List.map_map]
      rfl
    rw [e]
    exact hN2 _ _ hM ((hW _ _ _).mpr ⟨dn ++ [c], _, _, _, _, _, _, _, rfl, by rw [List.append_assoc]; exact edn, rfl⟩)
  · intro env M' w
    obtain ⟨dn, t3, t4, t5, t6, t7, t8, t9, rfl, edn, rfl⟩ := (hW _ _ _).mp w
    rw [List.append_nil] at edn
    subst edn
    show N _ _
    subst hN
    walk_at "wq"
    exact hp
end
abbrev s__law_start : Stmt := top 45
theorem sc__law_start : FnScope ["state", "word", "pairs"] ["state", "word"] (defScope s__law_start) := ⟨rfl, rfl, rfl, by decide +kernel, rfl, by decide +kernel, by decide +kernel⟩
abbrev s__law_picks : Stmt := top 46
theorem sc__law_picks : FnScope ["state", "word", "pairs", "found", "pair"] ["state", "word"] (defScope s__law_picks) := ⟨rfl, rfl, rfl, by decide +kernel, rfl, by decide +kernel, by decide +kernel⟩
abbrev s__law_cards : Stmt := top 47
theorem sc__law_cards : FnScope ["state", "word", "cards", "stage", "name", "fields", "card"] ["state", "word"] (defScope s__law_cards) := ⟨rfl, rfl, rfl, by decide +kernel, rfl, by decide +kernel, by decide +kernel⟩
def stgS : Stt → Str
  | .start _ _ => "start"
  | .name _ => "name"
  | .kind _ _ => "kind"
  | .frm _ _ _ => "from"
  | .iss0 _ _ _ => "issuer"
  | .iss _ _ => "issuers"
  | .card _ _ _ _ => "card"
  | .fld _ _ _ _ _ => "field"
  | .num _ _ _ _ => "number"
  | .nums _ _ _ _ => "numbers"
/-- the cards of the state -/
def stC : Stt → List Cd
  | .start cs _ => cs
  | .name cs => cs
  | .kind cs _ => cs
  | .frm cs _ _ => cs
  | .iss0 cs _ _ => cs
  | .iss cs c => cs ++ [c]
  | .card cs _ _ _ => cs
  | .fld cs _ _ _ _ => cs
  | .num cs _ _ _ => cs
  | .nums cs _ _ _ => cs
def stN : Stt → Nat
  | .start _ k => k
  | .card _ k _ _ => k
  | .fld _ k _ _ _ => k
  | .num _ k _ _ => k
  | .nums _ k _ _ => k
  | _ => 0
def noI (c : Cd) : Cd := ⟨c.nm, c.kn, []⟩
def woD : Option Vl → Dat
  | none => .non
  | some v => .tup [.str v.cn, .str v.fn]
def kyL : List Key := [.inr "stage", .inr "cards", .inr "count", .inr "kinds", .inr "without", .inr "name", .inr "kind", .inr "issuers", .inr "word", .inr "card", .inr "least", .inr "most"]
structure KyOk (kvs : List (Key × Dat)) : Prop where
  nd : (kvs.map (·.1)).Nodup
  al : ∀ k ∈ kvs.map (·.1), k ∈ kyL
theorem KyOk.len {kvs : List (Key × Dat)} (h : KyOk kvs) : kvs.length ≤ 12 := by
  have := pigeon (ys := kvs.map (·.1)) (xs := kyL) h.nd h.al
  rw [List.length_map] at this
  exact this
theorem KyOk.put {kvs : List (Key × Dat)} {k : Key} {d : Dat} (h : KyOk kvs) (m : k ∈ kyL) : KyOk (putD kvs k d) := by
  unfold putD
  by_cases e : (kvs.any fun kv => decide (kv.1 = k)) = true
  · rw [if_pos e]
    have e2 : (kvs.map fun kv => if kv.1 = k then (kv.1, d) else kv).map (·.1) = kvs.map (·.1) := by
      rw [List.map_map]
      refine List.map_congr_left fun x _ => ?_
      show (if x.1 = k then (x.1, d) else x).1 = x.1
      split <;> rfl
    exact ⟨by rw [e2]; exact h.nd, fun x hx => by rw [e2] at hx; exact h.al x hx⟩
  · rw [if_neg e]
    have n : k ∉ kvs.map (·.1) := fun z => by
      obtain ⟨x, mx, ex⟩ := List.mem_map.mp z
      exact e (List.any_eq_true.mpr ⟨x, mx, decide_eq_true ex⟩)
    have e2 : (kvs ++ [(k, d)]).map (·.1) = kvs.map (·.1) ++ [k] := List.map_append
    refine ⟨?_, fun x hx => ?_⟩
    · rw [e2, List.nodup_append]
      exact ⟨h.nd, List.nodup_cons.mpr ⟨List.not_mem_nil, List.nodup_nil⟩, fun a ha b hb z => n (by rw [← List.mem_singleton.mp hb, ← z]; exact ha)⟩
    · rw [e2] at hx
      rcases List.mem_append.mp hx with hx | hx
      · exact h.al x hx
      · rw [List.mem_singleton.mp hx]
        exact m
theorem dg_mapV {k : Key} {f : Dat → Dat} : ∀ {kvs : List (Key × Dat)}, dgetD (kvs.map fun kv => (kv.1, f kv.2)) k = (dgetD kvs k).map f
  | [] => rfl
  | (k', d) :: kvs => by
    rw [List.map_cons, dg_c, dg_c, dg_mapV]
    split <;> rfl
/-- what the state holds beside -/
def LwMore (M : Sto) (a ac : Addr) (kvs : List (Key × Dat)) : Stt → Prop
  | .kind _ nm => dgetD kvs (.inr "name") = some (.str nm)
  | .frm _ nm kn => dgetD kvs (.inr "name") = some (.str nm) ∧ dgetD kvs (.inr "kind") = some (.str kn)
  | .iss0 _ nm kn => dgetD kvs (.inr "name") = some (.str nm) ∧ dgetD kvs (.inr "kind") = some (.str kn)
  | .iss _ c => ∃ ai, dgetD kvs (.inr "issuers") = some (.cell ai) ∧ M ai = some (.lst (c.is.map .str)) ∧ ai ≠ a ∧ ai ≠ ac
  | .card _ _ wd wo => dgetD kvs (.inr "word") = some (.str wd) ∧ dgetD kvs (.inr "without") = some (woD wo)
  | .fld _ _ wd wo cn => dgetD kvs (.inr "word") = some (.str wd) ∧ dgetD kvs (.inr "without") = some (woD wo) ∧ dgetD kvs (.inr "card") = some (.str cn)
  | .num _ _ wd v => dgetD kvs (.inr "word") = some (.str wd) ∧ dgetD kvs (.inr "most") = some (.int (v.sz - 1))
  | .nums _ _ v lo => dgetD kvs (.inr "least") = some (.int lo) ∧ dgetD kvs (.inr "most") = some (.int (v.sz - 1))
  | _ => True
structure LwSt (M : Sto) (a ac : Addr) (ks : List Kd) (s : Stt) (kvs : List (Key × Dat)) : Prop where
  ha : M a = some (.dK kvs)
  hk : KyOk kvs
  stage : dgetD kvs (.inr "stage") = some (.str (stgS s))
  cards : dgetD kvs (.inr "cards") = some (.cell ac)
  hc : M ac = some (.lst ((stC s).map fun c => cdD (noI c)))
  ne : ac ≠ a
  count : dgetD kvs (.inr "count") = some (.int (stN s))
  kinds : dgetD kvs (.inr "kinds") = some (.lst (ks.map kdT))
  more : LwMore M a ac kvs s
theorem rdv {M : Sto} {a : Addr} {kvs : List (Key × Dat)} {x : Str} {d : Dat} {P : Dat → Prop} (ha : M a = some (.dK kvs)) (h : dgetD kvs (.inr x) = some d) (hp : P (vwD 2 M d)) : kDget (vwD 3 M (.cell a)) (.str x) P := by
  rw [vw_dK ha, kDget_s, dg_mapV, h]
  exact hp
theorem vw_cs {M : Sto} {ac : Addr} {cs : List Cd} (h : M ac = some (.lst (cs.map fun c => cdD (noI c)))) : vwD 2 M (.cell ac) = .lst ((cs.map noI).map cdD) := by
  rw [vw_lst h, List.map_map, List.map_map]
  rfl
theorem vals_noI {ks : List Kd} {cs : List Cd} : valsO ks (cs.map noI) = valsO ks cs := by
  unfold valsO
  rw [List.flatMap_map]
  rfl
structure CsOk (ks : List Kd) (cs : List Cd) : Prop where
  l3 : cs.length ≤ 3
  nd : (cs.map (·.nm)).Nodup
  cd : ∀ c ∈ cs, c.kn ∈ ks.map (·.1) ∧ isNm c.nm = true
theorem CsOk.vals {ks : List Kd} {cs : List Cd} (kok : KsA ks) (h : CsOk ks cs) : VsOk (valsO ks cs) ∧ ∀ v ∈ valsO ks cs, 1 ≤ v.sz ∧ v.sz ≤ 16 ∧ isNm v.cn = true ∧ isNm v.fn = true := by
  have e : valsO ks (cs.map fun c => ⟨c.nm, c.kn, ["a"]⟩) = valsO ks cs := by
    unfold valsO
    rw [List.flatMap_map]
    rfl
  rw [← e]
  refine vals_ok kok (by rw [List.length_map]; exact h.l3) (by rw [List.map_map]; exact h.nd) fun c hc => ?_
  obtain ⟨d, hd, rfl⟩ := List.mem_map.mp hc
  exact ⟨(h.cd d hd).2, (h.cd d hd).1, Nat.le_refl _, Nat.le_of_ble_eq_true rfl, List.nodup_cons.mpr ⟨List.not_mem_nil, List.nodup_nil⟩, fun x hx => by rw [List.mem_singleton.mp hx]; decide +kernel⟩
theorem CsOk.noI_ {ks : List Kd} {cs : List Cd} (kok : KsA ks) (h : CsOk ks cs) : KsA ks ∧ (cs.map noI).length ≤ 3 ∧ ∀ c ∈ cs.map noI, c.kn ∈ ks.map (·.1) := ⟨kok, by rw [List.length_map]; exact h.l3, fun c hc => (by obtain ⟨d, hd, rfl⟩ := List.mem_map.mp hc; exact (h.cd d hd).1)⟩
theorem LwSt.hcm {M : Sto} {a ac : Addr} {ks : List Kd} {s : Stt} {kvs : List (Key × Dat)} (L : LwSt M a ac ks s kvs) : M ac = some (.lst (((stC s).map noI).map cdD)) := by
  rw [L.hc, List.map_map]
  rfl
/-- the state's dict after some changes -/
structure UpD (M : Sto) (a : Addr) (M1 : Sto) (kvs : List (Key × Dat)) : Prop where
  ha : M1 a = some (.dK kvs)
  hk : KyOk kvs
  nb : ∀ y, y ≠ a → M1 y = M y
theorem UpD.put {M M1 : Sto} {a : Addr} {kvs : List (Key × Dat)} {k : Key} {d : Dat} (u : UpD M a M1 kvs) (m : k ∈ kyL) : UpD M a (M1.put a (some (.dK (putD kvs k d)))) (putD kvs k d) := ⟨Sto.put_s, u.hk.put m, fun y h => (Sto.put_n h).trans (u.nb y h)⟩
theorem UpD.len {M M1 : Sto} {a : Addr} {kvs : List (Key × Dat)} (u : UpD M a M1 kvs) : kvs.length < 1000 := Nat.lt_of_le_of_lt u.hk.len (by decide)
theorem LwSt.up {M : Sto} {a ac : Addr} {ks : List Kd} {s : Stt} {kvs : List (Key × Dat)} (L : LwSt M a ac ks s kvs) : UpD M a M kvs := ⟨L.ha, L.hk, fun _ _ => rfl⟩
theorem ky_stage : (.inr "stage" : Key) ∈ kyL := by simp [kyL]
theorem ky_count : (.inr "count" : Key) ∈ kyL := by simp [kyL]
theorem ky_without : (.inr "without" : Key) ∈ kyL := by simp [kyL]
theorem ky_name : (.inr "name" : Key) ∈ kyL := by simp [kyL]
theorem ky_kind : (.inr "kind" : Key) ∈ kyL := by simp [kyL]
theorem ky_issuers : (.inr "issuers" : Key) ∈ kyL := by simp [kyL]
theorem ky_word : (.inr "word" : Key) ∈ kyL := by simp [kyL]
theorem ky_card : (.inr "card" : Key) ∈ kyL := by simp [kyL]
theorem ky_least : (.inr "least" : Key) ∈ kyL := by simp [kyL]
theorem ky_most : (.inr "most" : Key) ∈ kyL := by simp [kyL]
local macro_rules | `(tactic| walk_at "dgs") => `(tactic| (simp only [dgetD_put, ofS_inj, Sum.inr.injEq, String.reduceEq, reduceIte]))
section
variable {P : Program} {w : World} {K : PySem.W.Frag} {mg : Str → Option Value} {base : Heap} {ca : Nat → Addr} {gKW gCW : Addr}
def bspLwStart : BSp := fun ds M X P => ∃ (a ac : Addr) (ks : List Kd) (cs : List Cd) (k : Nat) (kvs : List (Key × Dat)) (x : Str), ds = [.cell a, .str x] ∧ LwSt M a ac ks (.start cs k) kvs ∧ (KsA ks ∧ CsOk ks cs) ∧ (stStart ks cs k x = none → ∀ M', P (.bl false) M') ∧ ∀ s' kvs' M', stStart ks cs k x = some s' → LwSt M' a ac ks s' kvs' → P (.bl true) M'
theorem ok_law_start {f : Addr} {fd : FuncData} (F : Fun K "_law_start" "_law_start" s__law_start f fd) (B : Blt mg) (C__law_pairs : C8.Cal P w K mg base 1 "_law_pairs" (toSp2 K ca bspLPrC) []) : FnOk P w K mg base CX0 2 f fd ["state", "word"] (toSp2 K ca bspLwStart) := by
  refine F.ok sc__law_start (fun vs H Q E h => sp_len2 (n := 2) (fun ds M X P a => by obtain ⟨_, _, _, _, _, _, _, rfl, _⟩ := a; rfl) h) (fun cdv A outer s H vs Q E hr h => ⟨_, (pss_cons (ps_set (i := 2) sc__law_start.nd rfl (.inl rfl) (C8.pe_c C__law_pairs hr (by omega) rfl (pa_cons (pe_dget (hu_of hr) (pv 0) pe_str (fun _ _ => rfl)) (pa_cons (pe_dget (hu_of hr) (pv 0) pe_str (fun _ _ => rfl)) pa_nil))))
      (pss_cons (ps_if (PW.pt (pw_and (pt_cmpR op_eq (pv 1) pe_str (nomark _)) (pw_and (pt_cmpR op_eq (pe_dget (hu_of hr) (pv 0) pe_str (fun _ _ => rfl)) pe_int (nomark _)) (pw_and1 (pt_cmpR op_lt (pe_callB (klen (K := K) rfl) (by rfl) B.len bt_len (pa_cons (pe_dget (hu_of hr) (pv 0) pe_str (fun _ _ => rfl)) pa_nil)) pe_int (nomark _)))))) (pss_cons (ps_dput (hu_of hr) (pv 0) pe_str pe_str (by rfl))
      (pss_one (ps_ret pe_bl))) pss_nil)
      (pss_cons (ps_if (PW.pt (pw_or (pt_cmpR (knin (K := K) rfl) (pv 1) (pe_tupF (pa_cons pe_str (pa_cons pe_str (pa_cons pe_str (pa_cons pe_str (pa_cons pe_str pa_nil)))))) rfl) (pw_or (pt_cmpR op_gt (pe_dget (hu_of hr) (pv 0) pe_str (fun _ _ => rfl)) pe_int (nomark _)) (pw_or1 (pt_cmpR op_eq (pe_callB (klen (K := K) rfl) (by rfl) B.len bt_len (pa_cons (pe_dget (hu_of hr) (pv 0) pe_str (fun _ _ => rfl)) pa_nil)) pe_int (nomark _)))))) (pss_one (ps_ret pe_bl)) pss_nil)
      (pss_cons (ps_dput (hu_of hr) (pv 0) pe_str (pe_op op_add (pe_dget (hu_of hr) (pv 0) pe_str (fun _ _ => rfl)) pe_int) (by rfl))
      (pss_cons (ps_dput (hu_of hr) (pv 0) pe_str (pv 1) (by rfl))
      (pss_cons (ps_dput (hu_of hr) (pv 0) pe_str pe_str (by rfl))
      (pss_cons (ps_dput (hu_of hr) (pv 0) pe_str pe_non (by rfl))
      (pss_one (ps_ret (pe_cmpR op_gt (pe_callB (klen (K := K) rfl) (by rfl) B.len bt_len (pa_cons (pv 2) pa_nil)) (pe_callTy call_int1 (by rfl) B.int bt_int (pa_cons (pe_cmpR op_eq (pv 1) pe_str (nomark _)) pa_nil)) (nomark _))))))))))),
    fn_run2 h (fun po => (z_seq (z_set fun _ => (b_call2 (b_cons (b_dget (b_up fun _ => a_var) (b_up fun _ => a_str)) (b_cons (b_dget (b_up fun _ => a_var) (b_up fun _ => a_str)) b_nil))))
      (z_seq (z_if (fun _ => (b_upVT 3 fun _ => (a_and (a_test (a_op pst_rv rok_eq a_var a_str)) (a_and (a_test (a_op pst_rv rok_eq (a_dget a_var a_str) a_int)) (a_test (a_op pst_rv rok_B0 (a_b1 u_len (a_pk (a_dget a_var a_str))) a_int)))))) (z_seq (z_putD (fun _ => (b_up fun _ => a_str)) (fun _ => (b_up fun _ => a_var)) (fun _ => (b_up fun _ => a_str)))
      (z_ret fun _ => (b_up fun _ => a_bl))) z_next)
      (z_seq (z_if (fun _ => (b_upVT 3 fun _ => (a_or (a_test (a_op pst_rv rok_in a_var (a_pk (a_tup (a_cons a_str (a_cons a_str (a_cons a_str (a_cons a_str (a_cons a_str a_nil))))))))) (a_or (a_test (a_op pst_rv rok_B0 (a_dget a_var a_str) a_int)) (a_test (a_op pst_rv rok_eq (a_b1 u_len (a_pk (a_dget a_var a_str))) a_int)))))) (z_ret fun _ => (b_up fun _ => a_bl)) z_next)
      (z_seq (z_putD (fun _ => (b_upV 3 fun _ => (a_op pst_rv rok_I0 (a_dget a_var a_str) a_int))) (fun _ => (b_up fun _ => a_var)) (fun _ => (b_up fun _ => a_str)))
      (z_seq (z_putD (fun _ => (b_up fun _ => a_var)) (fun _ => (b_up fun _ => a_var)) (fun _ => (b_up fun _ => a_str)))
      (z_seq (z_putD (fun _ => (b_up fun _ => a_str)) (fun _ => (b_up fun _ => a_var)) (fun _ => (b_up fun _ => a_str)))
      (z_seq (z_putD (fun _ => (b_up fun _ => a_non)) (fun _ => (b_up fun _ => a_var)) (fun _ => (b_up fun _ => a_str)))
      (z_ret fun _ => (b_up fun _ => (a_op pst_rv rok_B0 (a_b1 u_len (a_pk a_var)) (a_b1 u_int (a_op pst_rv rok_eq a_var a_str))))))))))))) (fun ds M X P a => by obtain ⟨_, _, _, _, _, _, _, rfl, _⟩ := a; exact Nat.le_of_ble_eq_true rfl) ?_⟩)
  rintro ds M X P ⟨a, ac, ks, cs, k, kvs, x, rfl, L, ⟨kok, cok⟩, h0, h1'⟩
  have l3 := cok.l3
  have lv := (cok.vals kok).1.ln
  have go : ∀ {P : Dat → Prop} {x : Str} {d : Dat}, dgetD kvs (.inr x) = some d → P (vwD 2 M d) → kDget (vwD 3 M (.cell a)) (.str x) P := fun h hp => rdv L.ha h hp
  refine zseqG fun N hN => ?_
  walk_at "wq"
  rw [L.ha]
  walk_at "wq"
  rw [L.kinds, L.cards]
  refine ⟨ac, ks, cs.map noI, rfl, L.hcm, cok.noI_ kok, ?_⟩
  rw [vals_noI]
  subst hN
  refine zseqG fun N hN => ?_
  walk_at "wq"
  have rest : ¬ (x = "card" ∧ k = 0 ∧ cs.length < 3) → N [Sl.d (.cell a), Sl.d (.str x), Sl.d (.lst ((valsO ks cs).map prV))] M := fun hn => by
    have e0 : ∀ h : ¬ (x ∈ cwS ∧ k ≤ 5 ∧ cs ≠ [] ∧ (if x = "same" then 1 else 0) < (valsO ks cs).length), stStart ks cs k x = none := fun h => by
      unfold stStart
      rw [if_neg hn, if_neg h]
    subst hN
    refine zseqG fun N hN => ?_
    walk_at "wq"
    refine (show kIn true (.str x) (.tup (cwS.map .str)) _ from kIn_nsT ?_)
    walk_at "wq"
    refine twoN (fun hw => h0 (e0 fun z => hw z.1) _) (fun hw => ?_)
    refine go L.count ?_
    rw [vw_i]
    walk_at "wq"
    refine twoD (fun hk => h0 (e0 fun z => by have := z.2.1; have : 5 < (k : Int) := hk; omega) _) (fun hk => ?_)
    have hk : ¬ 5 < (k : Int) := hk
    refine go L.cards ?_
    rw [vw_cs L.hc]
    walk_at "wq"
    rw [List.length_map, List.length_map]
    refine twoD (fun hl => h0 (e0 fun z => z.2.2.1 (List.length_eq_zero_iff.mp (by have hl : (cs.length : Int) = 0 := hl; omega))) _) (fun hl => ?_)
    have nc : cs ≠ [] := fun z => hl (by rw [z]; rfl)
    have hl : ¬ (cs.length : Int) = 0 := hl
    have e1 : (if x = "same" then 1 else 0) < (valsO ks cs).length → stStart ks cs k x = some (.card cs (k + 1) x none) := fun h => by
      unfold stStart
      rw [if_neg hn, if_pos ⟨hw, by omega, nc, h⟩]
    subst hN
    refine zseqG fun N hN => ?_
    walk_at "wq"
    refine go L.count ?_
    rw [vw_i]
    walk_at "wq"
    rw [L.ha]
    refine ⟨L.up.len, ?_⟩
    have u := L.up.put (d := .int ((k : Int) + 1)) ky_count
    subst hN
    refine zseqG fun N hN => ?_
    walk_at "wq"
    refine ⟨u.len, ?_⟩
    have u := u.put (d := .str x) ky_word
    subst hN
    refine zseqG fun N hN => ?_
    walk_at "wq"
    refine ⟨u.len, ?_⟩
    have u := u.put (d := .str "card") ky_stage
    subst hN
    refine zseqG fun N hN => ?_
    walk_at "wq"
    refine ⟨u.len, ?_⟩
    have u := u.put (d := .non) ky_without
    subst hN
    walk_at "wq"
    rw [List.length_map]
    by_cases hlv : (if x = "same" then 1 else 0) < (valsO ks cs).length
    · have e2 : decide ((if decide (x = Str.ofString "same") = true then 1 else 0) < ((valsO ks cs).length : Int)) = true := by
        refine decide_eq_true ?_
        by_cases hs : x = "same"
        · rw [if_pos hs] at hlv
          rw [if_pos (decide_eq_true hs)]
          omega
        · rw [if_neg hs] at hlv
          rw [if_neg (by rw [decide_eq_false hs]; decide)]
          omega
      rw [e2]
      refine h1' _ _ _ (e1 hlv) ⟨u.ha, u.hk, ?_, ?_, ?_, L.ne, ?_, ?_, ?_, ?_⟩
      · walk_at "dgs"
        rfl
      · walk_at "dgs"
        exact L.cards
      · exact (u.nb ac L.ne).trans L.hc
      · walk_at "dgs"
        rfl
      · walk_at "dgs"
        exact L.kinds
      · walk_at "dgs"
      · walk_at "dgs"
        rfl
    · have e2 : decide ((if decide (x = Str.ofString "same") = true then 1 else 0) < ((valsO ks cs).length : Int)) = false := by
        refine decide_eq_false ?_
        by_cases hs : x = "same"
        · rw [if_pos hs] at hlv
          rw [if_pos (decide_eq_true hs)]
          omega
        · rw [if_neg hs] at hlv
          rw [if_neg (by rw [decide_eq_false hs]; decide)]
          omega
      rw [e2]
      exact h0 (e0 fun z => hlv z.2.2.2) _
  walk_at "wq"
  refine twoD (fun h1 => ?_) (fun h1 => rest fun z => h1 z.1)
  refine go L.count ?_
  rw [vw_i]
  walk_at "wq"
  refine twoD (fun h2 => ?_) (fun h2 => rest fun z => h2 (congrArg Int.ofNat z.2.1))
  refine go L.cards ?_
  rw [vw_cs L.hc]
  walk_at "wq"
  rw [List.length_map, List.length_map]
  refine twoD (fun h3 => ?_) (fun h3 => rest fun z => h3 (by have := z.2.2; exact Int.ofNat_lt.mpr this))
  have h2 : (k : Int) = 0 := h2
  have h3 : (cs.length : Int) < 3 := h3
  refine zseqG fun N2 hN2 => ?_
  walk_at "wq"
  rw [L.ha]
  refine ⟨L.up.len, ?_⟩
  have u := L.up.put (d := .str "name") ky_stage
  subst hN2
  walk_at "wq"
  refine h1' _ _ _ (if_pos ⟨h1, by omega, by omega⟩) ⟨u.ha, u.hk, ?_, ?_, ?_, L.ne, ?_, ?_, trivial⟩
  · walk_at "dgs"
    rfl
  · walk_at "dgs"
    exact L.cards
  · rw [u.nb ac L.ne]
    exact L.hc
  · walk_at "dgs"
    rw [L.count]
    exact congrArg (fun z => some (Dat.int z)) h2
  · walk_at "dgs"
    exact L.kinds
end
local macro_rules | `(tactic| walk_at "dgs") => `(tactic| (simp only [dgetD_put, ofS_inj, Sum.inr.injEq, String.reduceEq, reduceIte]))
section
variable {P : Program} {w : World} {K : PySem.W.Frag} {mg : Str → Option Value} {base : Heap} {ca : Nat → Addr} {gKW gCW : Addr}
/-- the first values without one -/
theorem woD_inj {vs : List Vl} (vok : VsOk vs) {wo : Option Vl} (hw : ∀ v, wo = some v → v ∈ vs) {u : Vl} (hu : u ∈ vs) : (Dat.tup [.str u.cn, .str u.fn] = woD wo) ↔ wo = some u := by
  cases wo with
  | none => exact ⟨fun z => (by cases z), fun z => (by cases z)⟩
  | some v =>
    rw [Option.some.injEq]
    constructor
    · intro z
      have z : Dat.tup [.str u.cn, .str u.fn] = Dat.tup [.str v.cn, .str v.fn] := z
      rw [Dat.tup.injEq, List.cons.injEq, List.cons.injEq, Dat.str.injEq, Dat.str.injEq] at z
      exact (vok.un u hu v (hw v rfl) z.1 z.2.1).symm
    · rintro rfl
      rfl
def bspLPick : BSp := fun ds M X P => ∃ (a ac : Addr) (ks : List Kd) (s : Stt) (kvs : List (Key × Dat)) (x : Str), ds = [.cell a, .str x] ∧ LwSt M a ac ks s kvs ∧ (KsA ks ∧ CsOk ks (stC s) ∧ PyData.strOk x = true) ∧ (match s with
  | .card cs _ _ wo => ∀ v, wo = some v → v ∈ valsO ks cs
  | .fld cs _ _ wo cn => (∀ v, wo = some v → v ∈ valsO ks cs) ∧ PyData.strOk cn = true
  | _ => False) ∧ (step ks s x = none → ∀ M', P (.bl false) M') ∧ ∀ s' kvs' M', step ks s x = some s' → LwSt M' a ac ks s' kvs' → P (.bl true) M'
theorem ok_law_picks {f : Addr} {fd : FuncData} (F : Fun K "_law_picks" "_law_picks" s__law_picks f fd) (B : Blt mg) (C__law_pairs : C8.Cal P w K mg base 1 "_law_pairs" (toSp2 K ca bspLPrC) []) : FnOk P w K mg base CX0 2 f fd ["state", "word"] (toSp2 K ca bspLPick) := by
  refine F.ok sc__law_picks (fun vs H Q E h => sp_len2 (n := 2) (fun ds M X P a => by obtain ⟨_, _, _, _, _, _, rfl, _⟩ := a; rfl) h) (fun cdv A outer s H vs Q E hr h => ⟨_, (pss_cons (ps_set (i := 2) sc__law_picks.nd rfl (.inl rfl) (C8.pe_c C__law_pairs hr (by omega) rfl (pa_cons (pe_dget (hu_of hr) (pv 0) pe_str (fun _ _ => rfl)) (pa_cons (pe_dget (hu_of hr) (pv 0) pe_str (fun _ _ => rfl)) pa_nil))))
      (pss_cons (ps_setLc (i := 2) (own := [("pair", 4)]) (g := gName 4) rfl sc__law_picks.nd rfl rfl (sw_true rfl rfl rfl (by decide +kernel)) (kpil (K := K) rfl (pv 2)) (blkOk_by (N := ["state", "word", "pairs", "found", "pair"]) (sc := defScope s__law_picks) (by decide +kernel))
        (fun _ _ _ _ _ => (pg_name (i := 4) sc__law_picks.nd rfl (.inl rfl))) (fun _ _ _ _ _ => pts_one (pt_cmpR (kned (K := K) rfl hr.units) (pe_ix (kixs (K := K) rfl) (pv 4) pe_int (fun _ _ => rfl)) (pe_dget (hu_of hr) (pv 0) pe_str (fun _ _ => rfl)) (nomark _)))
        (fun _ _ _ _ _ => (pv 4)))
      (pss_cons (ps_if (pt_cmpR op_eq (pe_dget (hu_of hr) (pv 0) pe_str (fun _ _ => rfl)) pe_str (nomark _)) (pss_cons (ps_dput (hu_of hr) (pv 0) pe_str (pv 1) (by rfl))
      (pss_cons (ps_dput (hu_of hr) (pv 0) pe_str pe_str (by rfl))
      (pss_one (ps_ret (pe_cmpR (kin (K := K) rfl) (pv 1) (pe_lc (own := [("pair", 4)]) (g := gName 4) (tt := tYes) rfl sc__law_picks.nd (kpil (K := K) rfl (pv 2)) (blkOk_by (N := ["state", "word", "pairs", "found", "pair"]) (sc := defScope s__law_picks) (by decide +kernel))
        (fun _ _ _ _ _ => (pg_name (i := 4) sc__law_picks.nd rfl (.inl rfl))) (fun _ _ _ _ _ => pts_nil)
        (fun _ _ _ _ _ => (pe_ix (kixs (K := K) rfl) (pe_ix (kixs (K := K) rfl) (pv 4) pe_int (fun _ _ => rfl)) pe_int (fun _ _ => rfl)))) rfl))))) pss_nil)
      (pss_cons (ps_setLc (i := 3) (own := [("pair", 4)]) (g := gName 4) rfl sc__law_picks.nd rfl rfl (sw_true rfl rfl rfl (by decide +kernel)) (kpil (K := K) rfl (pv 2)) (blkOk_by (N := ["state", "word", "pairs", "found", "pair"]) (sc := defScope s__law_picks) (by decide +kernel))
        (fun _ _ _ _ _ => (pg_name (i := 4) sc__law_picks.nd rfl (.inl rfl))) (fun _ _ _ _ _ => pts_one (pt_cmpR (keqd (K := K) rfl hr.units) (pe_ix (kixs (K := K) rfl) (pv 4) pe_int (fun _ _ => rfl)) (pe_tupF (pa_cons (pe_dget (hu_of hr) (pv 0) pe_str (fun _ _ => rfl)) (pa_cons (pv 1) pa_nil))) (nomark _)))
        (fun _ _ _ _ _ => (pv 4)))
      (pss_cons (ps_if (pt_cmpR op_eq (pe_callB (klen (K := K) rfl) (by rfl) B.len bt_len (pa_cons (pv 3) pa_nil)) pe_int (nomark _)) (pss_one (ps_ret pe_bl)) pss_nil)
      (pss_cons (ps_dput (hu_of hr) (pv 0) pe_str pe_str (by rfl))
      (C8.pss_cut (ps_if (PW.pt (pw_or (pt_cmpR op_eq (pe_dget (hu_of hr) (pv 0) pe_str (fun _ _ => rfl)) pe_str (nomark _)) (pw_or1 (pt_cmpR op_notN (pe_dget (hu_of hr) (pv 0) pe_str (fun _ _ => rfl)) pe_non (nomark _))))) (pss_one (ps_dput (hu_of hr) (pv 0) pe_str pe_str (by rfl))) (pss_one (ps_if (pt_cmpR op_eq (pe_dget (hu_of hr) (pv 0) pe_str (fun _ _ => rfl)) pe_str (nomark _)) (pss_cons (ps_dput (hu_of hr) (pv 0) pe_str pe_str (by rfl))
      (pss_one (ps_dput (hu_of hr) (pv 0) pe_str (pe_ix (kixs (K := K) rfl) (pe_ix (kixs (K := K) rfl) (pv 3) pe_int (fun _ _ => rfl)) pe_int (fun _ _ => rfl)) (by rfl)))) pss_nil)))
      (pss_cons (ps_dput (hu_of hr) (pv 0) pe_str pe_int (by rfl))
      (pss_cons (ps_dput (hu_of hr) (pv 0) pe_str (pe_op op_sub (pe_ix (kixs (K := K) rfl) (pe_ix (kixs (K := K) rfl) (pv 3) pe_int (fun _ _ => rfl)) pe_int (fun _ _ => rfl)) pe_int) (by rfl))
      (pss_one (ps_ret pe_bl))))))))))),
    fn_run2 h (fun po => (z_seq (z_set fun _ => (b_call2 (b_cons (b_dget (b_up fun _ => a_var) (b_up fun _ => a_str)) (b_cons (b_dget (b_up fun _ => a_var) (b_up fun _ => a_str)) b_nil))))
      (z_seq (z_set fun _ => (b_fz (b_upVF 3 fun _ => (a_lc (vs := [4]) (i_list a_var) (g_name (by decide)) (a_test (a_op pst_pk rok_neD (a_pk (a_op pst_pk rok_ix (a_pk a_var) a_int)) (a_pk (a_dget a_var a_str)))) a_var))))
      (z_seq (z_if (fun _ => (b_upVT 3 fun _ => (a_test (a_op pst_rv rok_eq (a_dget a_var a_str) a_str)))) (z_seq (z_putD (fun _ => (b_up fun _ => a_var)) (fun _ => (b_up fun _ => a_var)) (fun _ => (b_up fun _ => a_str)))
      (z_seq (z_putD (fun _ => (b_up fun _ => a_str)) (fun _ => (b_up fun _ => a_var)) (fun _ => (b_up fun _ => a_str)))
      (z_ret fun _ => (b_up fun _ => (a_op pst_rv rok_in a_var (a_pk (a_fz (a_lc (vs := [4]) (i_list a_var) (g_name (by decide)) a_yes (a_op pst_pk rok_ix (a_pk (a_op pst_pk rok_ix (a_pk a_var) a_int)) a_int))))))))) z_next)
      (z_seq (z_set fun _ => (b_fz (b_upVF 3 fun _ => (a_lc (vs := [4]) (i_list a_var) (g_name (by decide)) (a_test (a_op pst_pk rok_eqD (a_pk (a_op pst_pk rok_ix (a_pk a_var) a_int)) (a_pk (a_tup (a_cons (a_dget a_var a_str) (a_cons a_var a_nil)))))) a_var))))
      (z_seq (z_if (fun _ => (b_upT fun _ => (a_test (a_op pst_rv rok_eq (a_b1 u_len (a_pk a_var)) a_int)))) (z_ret fun _ => (b_up fun _ => a_bl)) z_next)
      (z_seq (z_putD (fun _ => (b_up fun _ => a_str)) (fun _ => (b_up fun _ => a_var)) (fun _ => (b_up fun _ => a_str)))
      (z_cut (z_if (fun _ => (b_upVT 3 fun _ => (a_or (a_test (a_op pst_rv rok_eq (a_dget a_var a_str) a_str)) (a_test (a_op pst_rv rok_notN (a_dget a_var a_str) a_non))))) (z_putD (fun _ => (b_up fun _ => a_str)) (fun _ => (b_up fun _ => a_var)) (fun _ => (b_up fun _ => a_str))) (z_if (fun _ => (b_upVT 3 fun _ => (a_test (a_op pst_rv rok_eq (a_dget a_var a_str) a_str)))) (z_seq (z_putD (fun _ => (b_up fun _ => a_str)) (fun _ => (b_up fun _ => a_var)) (fun _ => (b_up fun _ => a_str)))
      (z_putD (fun _ => (b_up fun _ => (a_op pst_pk rok_ix (a_pk (a_op pst_pk rok_ix (a_pk a_var) a_int)) a_int))) (fun _ => (b_up fun _ => a_var)) (fun _ => (b_up fun _ => a_str)))) z_next))
      (z_seq (z_putD (fun _ => (b_up fun _ => a_int)) (fun _ => (b_up fun _ => a_var)) (fun _ => (b_up fun _ => a_str)))
      (z_seq (z_putD (fun _ => (b_up fun _ => (a_op pst_rv rok_I0 (a_op pst_pk rok_ix (a_pk (a_op pst_pk rok_ix (a_pk a_var) a_int)) a_int) a_int))) (fun _ => (b_up fun _ => a_var)) (fun _ => (b_up fun _ => a_str)))
      (z_ret fun _ => (b_up fun _ => a_bl)))))))))))) (fun ds M X P a => by obtain ⟨_, _, _, _, _, _, rfl, _⟩ := a; exact Nat.le_of_ble_eq_true rfl) ?_⟩)
  rintro ds M X P ⟨a, ac, ks, s, kvs, x, rfl, L, ⟨kok, cok, sx⟩, hs, h0, h1'⟩
  have go : ∀ {P : Dat → Prop} {x : Str} {d : Dat}, dgetD kvs (.inr x) = some d → P (vwD 2 M d) → kDget (vwD 3 M (.cell a)) (.str x) P := fun h hp => rdv L.ha h hp
  obtain ⟨vok, val⟩ := cok.vals kok
  have lv := vok.ln
  refine zseqG fun N hN => ?_
  walk_at "wq"
  rw [L.ha]
  walk_at "wq"
  rw [L.kinds, L.cards]
  refine ⟨ac, ks, (stC s).map noI, rfl, L.hcm, cok.noI_ kok, ?_⟩
  rw [vals_noI]
  subst hN
  refine zseqG fun N hN => ?_
  walk_at "wq"
  obtain ⟨wo, hwv, hwo, hsw⟩ : ∃ wo, (∀ v, wo = some v → v ∈ valsO ks (stC s)) ∧ dgetD kvs (.inr "without") = some (woD wo) ∧ (match s with
    | .card _ _ _ w => w = wo
    | .fld _ _ _ w _ => w = wo
    | _ => True) := by
    cases s with
    | card cs k wd wo => exact ⟨wo, hs, L.more.2, rfl⟩
    | fld cs k wd wo cn => exact ⟨wo, hs.1, L.more.2.1, rfl⟩
    | _ => exact hs.elim
  have vwo : ∀ n, vwD n M (woD wo) = woD wo := fun n => by
    cases wo <;> cases n <;> rfl
  have okwo : okE 64 (woD wo) := by
    cases wo with
    | none => trivial
    | some v =>
      have := val v (hwv v rfl)
      exact (okE_tup (n := 0) (okE_two (okE_str (strOk_nm this.2.2.1) _) (okE_str (strOk_nm this.2.2.2) _))).up (Nat.le_of_ble_eq_true rfl)
  have okpr : ∀ u ∈ valsO ks (stC s), okE 64 (.tup [.str u.cn, .str u.fn]) := fun u hu => by
    have := val u hu
    exact (okE_tup (n := 0) (okE_two (okE_str (strOk_nm this.2.2.1) _) (okE_str (strOk_nm this.2.2.2) _))).up (Nat.le_of_ble_eq_true rfl)
  refine ⟨by rw [List.length_map]; omega, ?_⟩
  refine lcA_filL (g := prV) (fun u => !decide (wo = some u)) (fun u hu Q q1 q2 => ?_) ?_
  · rw [show prV u = .tup [.tup [.str u.cn, .str u.fn], .int u.sz] from rfl] at q1 ⊢
    walk_at "wq"
    refine go hwo ?_
    rw [vwo]
    refine ⟨okpr u hu, okwo, fun b hb => ?_⟩
    have e : b = decide (wo = some u) := by
      rw [Bool.eq_iff_iff, hb, decide_eq_true_eq]
      exact woD_inj vok hwv hu
    subst e
    walk_at "wq"
    exact twoN (fun e => q1 (by rw [decide_eq_false e]; rfl)) (fun e => q2 (by rw [decide_eq_true e]; rfl))
  rw [show (valsO ks (stC s)).filter (fun u => !decide (wo = some u)) = valsX ks (stC s) wo from rfl]
  have sub : ∀ v ∈ valsX ks (stC s) wo, v ∈ valsO ks (stC s) := fun v hv => (List.mem_filter.mp hv).1
  have lx : (valsX ks (stC s) wo).length ≤ 100 := Nat.le_trans (List.length_filter_le _ _) lv
  refine ⟨ftAll_of fun x hx => (by obtain ⟨y, _, rfl⟩ := List.mem_map.mp hx; rfl), ?_⟩
  subst hN
  refine zseqG fun N hN => ?_
  walk_at "wq"
  refine go L.stage ?_
  rw [vw_s]
  walk_at "wq"
  refine twoD (fun es => ?_) (fun es => ?_)
  · cases s with
    | card cs k wd wo' =>
      have hsw : wo' = wo := hsw
      subst hsw
      have st1 : step ks (.card cs k wd wo') x = if x ∈ (valsX ks cs wo').map (·.cn) then some (.fld cs k wd wo' x) else none := rfl
      refine zseqG fun N2 hN2 => ?_
      walk_at "wq"
      rw [L.ha]
      refine ⟨L.up.len, ?_⟩
      have u := L.up.put (d := .str x) ky_card
      subst hN2
      refine zseqG fun N2 hN2 => ?_
      walk_at "wq"
      refine ⟨u.len, ?_⟩
      have u := u.put (d := .str "field") ky_stage
      subst hN2
      walk_at "wq"
      refine ⟨by rw [List.length_map]; exact Nat.le_trans lx (by decide), ?_⟩
      refine lcA_mapL (g := fun v : Vl => Dat.str v.cn) (fun v hv Q hQ => ?_) ?_
      · rw [show prV v = .tup [.tup [.str v.cn, .str v.fn], .int v.sz] from rfl]
        walk_at "wq"
        exact hQ
      refine (show kIn false (.str x) (.lst ((valsX ks cs wo').map fun v : Vl => Dat.str v.cn)) _ from ?_)
      rw [show ((valsX ks cs wo').map fun v : Vl => Dat.str v.cn) = ((valsX ks cs wo').map (·.cn)).map .str by rw [List.map_map]; rfl]
      refine kIn_sL ?_
      by_cases m : x ∈ (valsX ks cs wo').map (·.cn)
      · rw [decide_eq_true m]
        refine h1' _ _ _ (st1.trans (if_pos m)) ⟨u.ha, u.hk, ?_, ?_, ?_, L.ne, ?_, ?_, ?_, ?_, ?_⟩
        · walk_at "dgs"
          rfl
        · walk_at "dgs"
          exact L.cards
        · exact (u.nb ac L.ne).trans L.hc
        · walk_at "dgs"
          exact L.count
        · walk_at "dgs"
          exact L.kinds
        · walk_at "dgs"
          exact L.more.1
        · walk_at "dgs"
          exact L.more.2
        · walk_at "dgs"
      · rw [decide_eq_false m]
        exact h0 (st1.trans (if_neg m)) _
    | fld cs k wd wo' cn => exact absurd es (show ¬ (("field" : Str) = "card") by decide)
    | _ => exact hs.elim
  · cases s with
    | card cs k wd wo' => exact absurd rfl es
    | fld cs k wd wo' cn =>
      have hsw : wo' = wo := hsw
      subst hsw
      have st2 : step ks (.fld cs k wd wo' cn) x = ((valsX ks cs wo').find? fun v => decide (v.cn = cn) && decide (v.fn = x)).map (stFld cs k wd wo') := rfl
      have scn : PyData.strOk cn = true := hs.2
      have hcn : dgetD kvs (.inr "card") = some (.str cn) := L.more.2.2
      have hwd : dgetD kvs (.inr "word") = some (.str wd) := L.more.1
      refine (show N [Sl.d (.cell a), Sl.d (.str x), Sl.d (.lst ((valsX ks cs wo').map prV)), Sl.u, Sl.u] M from ?_)
      have sub : ∀ v ∈ valsX ks cs wo', v ∈ valsO ks cs := sub
      subst hN
      refine zseqG fun N hN => ?_
      walk_at "wq"
      refine ⟨by rw [List.length_map]; exact Nat.le_trans lx (by decide), ?_⟩
      refine lcA_filL (g := prV) (fun v => decide (v.cn = cn) && decide (v.fn = x)) (fun u hu Q q1 q2 => ?_) ?_
      · rw [show prV u = .tup [.tup [.str u.cn, .str u.fn], .int u.sz] from rfl] at q1 ⊢
        walk_at "wq"
        refine go hcn ?_
        rw [vw_s]
        refine ⟨okpr u (sub u hu), (okE_tup (n := 0) (okE_two (okE_str scn _) (okE_str sx _))).up (Nat.le_of_ble_eq_true rfl), fun b hb => ?_⟩
        have e : b = (decide (u.cn = cn) && decide (u.fn = x)) := by
          rw [Bool.eq_iff_iff, hb, Bool.and_eq_true, decide_eq_true_eq, decide_eq_true_eq, Dat.tup.injEq, List.cons.injEq, List.cons.injEq, Dat.str.injEq, Dat.str.injEq]
          exact ⟨fun z => ⟨z.1, z.2.1⟩, fun z => ⟨z.1, z.2, rfl⟩⟩
        subst e
        walk_at "wq"
        cases hb : (decide (u.cn = cn) && decide (u.fn = x)) with
        | true => exact q1 hb
        | false => exact q2 hb
      have ef : ((valsX ks cs wo').filter fun v => decide (v.cn = cn) && decide (v.fn = x))[0]? = (valsX ks cs wo').find? fun v => decide (v.cn = cn) && decide (v.fn = x) := by
        rw [← List.head?_eq_getElem?, List.head?_filter]
      have sub2 : ∀ v ∈ (valsX ks cs wo').filter (fun v => decide (v.cn = cn) && decide (v.fn = x)), v ∈ valsO ks cs := fun v hv => sub v (List.mem_filter.mp hv).1
      rw [← ef] at st2
      refine (show ftAll (((valsX ks cs wo').filter fun v => decide (v.cn = cn) && decide (v.fn = x)).map prV) = true ∧ _ from ?_)
      generalize (valsX ks cs wo').filter (fun v => decide (v.cn = cn) && decide (v.fn = x)) = fd at st2 sub2 ⊢
      refine ⟨ftAll_of fun x hx => (by obtain ⟨y, _, rfl⟩ := List.mem_map.mp hx; rfl), ?_⟩
      clear okpr vwo okwo ef
      subst hN
      refine zseqG fun N hN => ?_
      walk_at "wq"
      rw [List.length_map]
      refine twoD (fun el => ?_) (fun el => ?_)
      · have el : (fd.length : Int) = 0 := el
        refine h0 ?_ _
        rw [st2, List.length_eq_zero_iff.mp (show fd.length = 0 by omega)]
        rfl
      have el : ¬ (fd.length : Int) = 0 := el
      obtain ⟨v, ft, rfl⟩ : ∃ v ft, fd = v :: ft := by
        cases fd with
        | nil => exact absurd rfl el
        | cons a b => exact ⟨a, b, rfl⟩
      have mv := sub2 v List.mem_cons_self
      have st3 : step ks (.fld cs k wd wo' cn) x = some (stFld cs k wd wo' v) := st2
      clear st2
      subst hN
      refine zseqG fun N hN => ?_
      walk_at "wq"
      rw [L.ha]
      refine ⟨L.up.len, ?_⟩
      have u := L.up.put (d := .str "number") ky_stage
      subst hN
      have hSt : ∃ W : List Sl → Sto → Prop, ∀ env M', W env M' ↔ ∃ kvs', env = [Sl.d (.cell a), Sl.d (.str x), Sl.d (.lst ((valsX ks cs wo').map prV)), Sl.d (.lst (prV v :: ft.map prV)), Sl.u] ∧ UpD M a M' kvs' ∧ dgetD kvs' (.inr "stage") = some (.str (stgS (stFld cs k wd wo' v))) ∧ dgetD kvs' (.inr "cards") = some (.cell ac) ∧ dgetD kvs' (.inr "count") = some (.int k) ∧ dgetD kvs' (.inr "kinds") = some (.lst (ks.map kdT)) ∧ dgetD kvs' (.inr "word") = some (.str wd) ∧ ∀ cs2 k2 wd2 w2, stFld cs k wd wo' v = .card cs2 k2 wd2 w2 → wd2 = wd ∧ dgetD kvs' (.inr "without") = some (woD w2) := ⟨_, fun _ _ => Iff.rfl⟩
      obtain ⟨W, hW⟩ := hSt
      refine ⟨W, ?_, fun env' M' w => ?_⟩
      · have ew : dgetD (putD kvs (.inr "stage") (.str "number")) (.inr "word") = some (.str wd) := by
          walk_at "dgs"
          exact hwd
        have eo : dgetD (putD kvs (.inr "stage") (.str "number")) (.inr "without") = some (woD wo') := by
          walk_at "dgs"
          exact hwo
        have toS : wd = "tell" ∨ wo' ≠ none → W [Sl.d (.cell a), Sl.d (.str x), Sl.d (.lst ((valsX ks cs wo').map prV)), Sl.d (.lst (prV v :: ft.map prV)), Sl.u] ((M.put a (some (.dK (putD kvs (.inr "stage") (.str "number"))))).put a (some (.dK (putD (putD kvs (.inr "stage") (.str "number")) (.inr "stage") (.str "start"))))) := fun h => by
          have es : stFld cs k wd wo' v = .start cs k := if_pos h
          refine (hW _ _).mpr ⟨_, rfl, u.put ky_stage, ?_, ?_, ?_, ?_, ?_, fun _ _ _ _ z => ?_⟩
          · rw [es]
            walk_at "dgs"
            rfl
          · walk_at "dgs"
            exact L.cards
          · walk_at "dgs"
            exact L.count
          · walk_at "dgs"
            exact L.kinds
          · walk_at "dgs"
            exact hwd
          · rw [es] at z
            cases z
        walk_at "wq"
        refine rdv u.ha ew ?_
        rw [vw_s]
        walk_at "wq"
        refine twoD (fun et => ⟨u.len, toS (.inl et)⟩) (fun et => ?_)
        refine rdv u.ha eo ?_
        cases wo' with
        | some v0 =>
          rw [show vwD 2 (M.put a (some (.dK (putD kvs (.inr "stage") (.str "number"))))) (woD (some v0)) = .tup [.str v0.cn, .str v0.fn] from rfl]
          walk_at "wq"
          exact ⟨u.len, toS (.inr fun z => nomatch z)⟩
        | none =>
          clear toS
          rw [show vwD 2 (M.put a (some (.dK (putD kvs (.inr "stage") (.str "number"))))) (woD none) = .non from rfl]
          walk_at "wq"
          refine rdv u.ha ew ?_
          rw [vw_s]
          walk_at "wq"
          have et : wd ≠ "tell" := et
          refine twoD (fun e2 => ?_) (fun e2 => ?_)
          · have e2 : wd = "same" := e2
            have es : stFld cs k wd none v = .card cs k wd (some v) := (if_neg fun z => z.elim et fun y => y rfl).trans (if_pos e2)
            refine zseqG fun N2 hN2 => ?_
            walk_at "wq"
            refine ⟨u.len, ?_⟩
            have u := u.put (d := .str "card") ky_stage
            subst hN2
            rw [show prV v = .tup [.tup [.str v.cn, .str v.fn], .int v.sz] from rfl]
            walk_at "wq"
            refine ⟨u.len, ?_⟩
            refine (hW _ _).mpr ⟨_, rfl, u.put ky_without, ?_, ?_, ?_, ?_, ?_, fun _ _ _ _ z => ?_⟩
            · rw [es]
              walk_at "dgs"
              rfl
            · walk_at "dgs"
              exact L.cards
            · walk_at "dgs"
              exact L.count
            · walk_at "dgs"
              exact L.kinds
            · walk_at "dgs"
              exact hwd
            · rw [es] at z
              cases z
              refine ⟨rfl, ?_⟩
              walk_at "dgs"
              rfl
          · have e2 : wd ≠ "same" := e2
            have es : stFld cs k wd none v = .num cs k wd v := (if_neg fun z => z.elim et fun y => y rfl).trans (if_neg e2)
            refine (hW _ _).mpr ⟨_, rfl, u, ?_, ?_, ?_, ?_, ew, fun _ _ _ _ z => ?_⟩
            · rw [es]
              walk_at "dgs"
              rfl
            · walk_at "dgs"
              exact L.cards
            · walk_at "dgs"
              exact L.count
            · walk_at "dgs"
              exact L.kinds
            · rw [es] at z
              cases z
      · obtain ⟨kvs', rfl, u', g1, g2, g3, g4, g5, g6⟩ := (hW _ _).mp w
        clear w hW W u
        refine zseqG fun N hN => ?_
        walk_at "wq"
        rw [u'.ha]
        refine ⟨u'.len, ?_⟩
        have u := u'.put (d := .int 0) ky_least
        subst hN
        refine zseqG fun N hN => ?_
        rw [show prV v = .tup [.tup [.str v.cn, .str v.fn], .int v.sz] from rfl]
        walk_at "wq"
        refine ⟨u.len, ?_⟩
        have u := u.put (d := .int (v.sz - 1)) ky_most
        subst hN
        walk_at "wq"
        have e3 : stC (stFld cs k wd wo' v) = cs ∧ stN (stFld cs k wd wo' v) = k := by
          unfold stFld
          split
          · exact ⟨rfl, rfl⟩
          · split <;> exact ⟨rfl, rfl⟩
        refine h1' _ _ _ st3 ⟨u.ha, u.hk, ?_, ?_, ?_, L.ne, ?_, ?_, ?_⟩
        · walk_at "dgs"
          exact g1
        · walk_at "dgs"
          exact g2
        · rw [e3.1]
          exact (u.nb ac L.ne).trans L.hc
        · rw [e3.2]
          walk_at "dgs"
          exact g3
        · walk_at "dgs"
          exact g4
        · cases e4 : stFld cs k wd wo' v with
          | start _ _ => trivial
          | card cs2 k2 wd2 w2 =>
            obtain ⟨e5, e6⟩ := g6 _ _ _ _ e4
            subst e5
            refine ⟨?_, ?_⟩
            · walk_at "dgs"
              exact g5
            · walk_at "dgs"
              exact e6
          | num cs2 k2 wd2 v2 =>
            have e5 : wd2 = wd ∧ v2 = v := by
              unfold stFld at e4
              split at e4
              · cases e4
              · split at e4
                · cases e4
                · cases e4
                  exact ⟨rfl, rfl⟩
            obtain ⟨rfl, rfl⟩ := e5
            refine ⟨?_, ?_⟩
            · walk_at "dgs"
              exact g5
            · walk_at "dgs"
          | _ =>
            unfold stFld at e4
            split at e4
            · cases e4
            · split at e4 <;> cases e4
    | _ => exact hs.elim
end
local macro_rules | `(tactic| walk_at "dgs") => `(tactic| (simp only [dgetD_put, ofS_inj, Sum.inr.injEq, String.reduceEq, reduceIte]))
/-- the state's own conditions -/
def LOk (ks : List Kd) (s : Stt) : Prop := CsOk ks (stC s) ∧ match s with
  | .name cs => cs.length < 3
  | .kind cs nm => cs.length < 3 ∧ isNm nm = true ∧ nm ∉ cs.map (·.nm)
  | .frm cs nm kn => cs.length < 3 ∧ isNm nm = true ∧ nm ∉ cs.map (·.nm) ∧ kn ∈ ks.map (·.1)
  | .iss0 cs nm kn => cs.length < 3 ∧ isNm nm = true ∧ nm ∉ cs.map (·.nm) ∧ kn ∈ ks.map (·.1)
  | .iss _ c => c.is.length ≤ 3
  | .card cs _ _ wo => ∀ v, wo = some v → v ∈ valsO ks cs
  | .fld cs _ _ wo cn => (∀ v, wo = some v → v ∈ valsO ks cs) ∧ PyData.strOk cn = true
  | .num cs _ _ v => v ∈ valsO ks cs
  | .nums cs _ v lo => v ∈ valsO ks cs ∧ 0 ≤ lo ∧ lo ≤ 100
  | .start _ _ => True
theorem CsOk.snoc {ks : List Kd} {cs : List Cd} {nm kn : Str} {is : List Str} (h : CsOk ks cs) (l : cs.length < 3) (n1 : isNm nm = true) (n2 : nm ∉ cs.map (·.nm)) (k : kn ∈ ks.map (·.1)) : CsOk ks (cs ++ [⟨nm, kn, is⟩]) := by
  refine ⟨by rw [List.length_append, List.length_singleton]; omega, ?_, fun d hd => ?_⟩
  · rw [List.map_append, List.nodup_append]
    exact ⟨h.nd, List.nodup_cons.mpr ⟨List.not_mem_nil, List.nodup_nil⟩, fun a ha b hb z => n2 (by rw [← show b = nm from List.mem_singleton.mp hb, ← z]; exact ha)⟩
  · rcases List.mem_append.mp hd with hd | hd
    · exact h.cd d hd
    · rw [List.mem_singleton.mp hd]
      exact ⟨k, n1⟩
theorem CsOk.is_ {ks : List Kd} {cs : List Cd} {c : Cd} {is : List Str} (h : CsOk ks (cs ++ [c])) : CsOk ks (cs ++ [⟨c.nm, c.kn, is⟩]) := by
  refine ⟨by have := h.l3; rw [List.length_append] at this ⊢; exact this, by have := h.nd; rw [List.map_append] at this ⊢; exact this, fun d hd => ?_⟩
  rcases List.mem_append.mp hd with hd | hd
  · exact h.cd d (List.mem_append.mpr (.inl hd))
  · rw [List.mem_singleton.mp hd]
    exact h.cd c (List.mem_append.mpr (.inr List.mem_cons_self))
theorem stOk_start {ks : List Kd} {cs : List Cd} {k : Nat} {x : Str} {s : Stt} (h : CsOk ks cs) (e : stStart ks cs k x = some s) : LOk ks s := by
  unfold stStart at e
  by_cases z : x = "card" ∧ k = 0 ∧ cs.length < 3
  · rw [if_pos z] at e
    cases e
    exact ⟨h, z.2.2⟩
  · rw [if_neg z] at e
    by_cases z2 : x ∈ cwS ∧ k ≤ 5 ∧ cs ≠ [] ∧ (if x = "same" then 1 else 0) < (valsO ks cs).length
    · rw [if_pos z2] at e
      cases e
      exact ⟨h, fun v z => (by cases z)⟩
    · rw [if_neg z2] at e
      cases e
theorem num_le {hi : Int} {x : Str} (h : hi ≤ 99) (m : x ∈ wrt 0 hi) : 0 ≤ numW x + 1 ∧ numW x + 1 ≤ 100 := by
  obtain ⟨j, j0, j1, rfl⟩ := wrt_ex m
  rw [num_txt j0 (by omega)]
  omega
theorem LOk.step {ks : List Kd} (kok : KsA ks) {s s' : Stt} {x : Str} (sx : PyData.strOk x = true) (h : LOk ks s) (e : My.step ks s x = some s') : LOk ks s' := by
  have sz : ∀ {cs : List Cd}, CsOk ks cs → ∀ v ∈ valsO ks cs, v.sz ≤ 99 := fun c v hv => by have := (c.vals kok).2 v hv; omega
  cases s with
  | start cs k => exact stOk_start h.1 e
  | name cs =>
    simp only [My.step] at e
    split at e
    · next z =>
      cases e
      exact ⟨h.1, h.2, z.1, z.2⟩
    · cases e
  | kind cs nm =>
    simp only [My.step] at e
    split at e
    · next z =>
      cases e
      exact ⟨h.1, h.2.1, h.2.2.1, h.2.2.2, z⟩
    · cases e
  | frm cs nm kn =>
    simp only [My.step] at e
    split at e
    · cases e
      exact h
    · cases e
  | iss0 cs nm kn =>
    simp only [My.step] at e
    split at e
    · cases e
      exact ⟨h.1.snoc h.2.1 h.2.2.1 h.2.2.2.1 h.2.2.2.2, Nat.le_of_ble_eq_true rfl⟩
    · cases e
  | iss cs c =>
    simp only [My.step] at e
    split at e
    · next z =>
      split at e
      · cases e
      · cases e
        exact ⟨CsOk.is_ h.1, by show (c.is ++ [x]).length ≤ 3; rw [List.length_append, List.length_singleton]; omega⟩
    · exact stOk_start h.1 e
  | card cs k wd wo =>
    simp only [My.step] at e
    split at e
    · cases e
      exact ⟨h.1, h.2, sx⟩
    · cases e
  | fld cs k wd wo cn =>
    simp only [My.step] at e
    rw [Option.map_eq_some_iff] at e
    obtain ⟨v, hv, e⟩ := e
    have mv : v ∈ valsO ks cs := (List.mem_filter.mp (List.mem_of_find?_eq_some hv)).1
    unfold stFld at e
    split at e
    · cases e
      exact ⟨h.1, trivial⟩
    · split at e
      · cases e
        exact ⟨h.1, fun u z => by cases z; exact mv⟩
      · cases e
        exact ⟨h.1, mv⟩
  | num cs k wd v =>
    simp only [My.step] at e
    split at e
    · next z =>
      have := num_le (sz h.1 v h.2) z
      split at e
      · cases e
        exact ⟨h.1, h.2, this.1, this.2⟩
      · cases e
        exact ⟨h.1, trivial⟩
    · cases e
  | nums cs k v lo =>
    simp only [My.step] at e
    split at e
    · split at e
      · next z =>
        cases e
        have z2 := wrt_sub h.2.2.1 z
        have := num_le (sz h.1 v h.2.1) z2
        exact ⟨h.1, h.2.1, this.1, this.2⟩
      · cases e
    · exact stOk_start h.1 e
section
variable {P : Program} {w : World} {K : PySem.W.Frag} {mg : Str → Option Value} {base : Heap} {ca : Nat → Addr} {gKW gCW : Addr}
def bspLCrd : BSp := fun ds M X P => ∃ (a ac : Addr) (ks : List Kd) (s : Stt) (kvs : List (Key × Dat)) (x : Str), ds = [.cell a, .str x] ∧ LwSt M a ac ks s kvs ∧ (KsA ks ∧ LOk ks s ∧ x.length ≤ 1000) ∧ (match s with
  | .name _ => True
  | .kind _ _ => True
  | .frm _ _ _ => True
  | .iss0 _ _ _ => True
  | _ => False) ∧ (step ks s x = none → ∀ M', P (.bl false) M') ∧ ∀ s' kvs' M', step ks s x = some s' → LwSt M' a ac ks s' kvs' → P (.bl true) M'
theorem ok_law_cards {f : Addr} {fd : FuncData} (F : Fun K "_law_cards" "_law_cards" s__law_cards f fd) (B : Blt mg) (C__law_is_name : C8.Cal P w K mg base 1 "_law_is_name" (toSp K ca aspLIsName) []) : FnOk P w K mg base CX0 2 f fd ["state", "word"] (toSp2 K ca bspLCrd) := by
  refine F.ok sc__law_cards (fun vs H Q E h => sp_len2 (n := 2) (fun ds M X P a => by obtain ⟨_, _, _, _, _, _, rfl, _⟩ := a; rfl) h) (fun cdv A outer s H vs Q E hr h => ⟨_, (pss_cons (ps_set (i := 2) sc__law_cards.nd rfl (.inl rfl) (pe_dget (hu_of hr) (pv 0) pe_str (fun _ _ => rfl)))
      (pss_cons (ps_set (i := 3) sc__law_cards.nd rfl (.inl rfl) (pe_dget (hu_of hr) (pv 0) pe_str (fun _ _ => rfl)))
      (pss_cons (ps_if (pt_cmpR op_eq (pv 3) pe_str (nomark _)) (pss_cons (ps_dput (hu_of hr) (pv 0) pe_str (pv 1) (by rfl))
      (pss_cons (ps_dput (hu_of hr) (pv 0) pe_str pe_str (by rfl))
      (pss_one (ps_ret (pe_and (C8.pe_c C__law_is_name hr (by omega) rfl (pa_cons (pv 1) pa_nil)) (pe_one (pe_cmpR (knin (K := K) rfl) (pv 1) (pe_lc (own := [("card", 6)]) (g := gName 6) (tt := tYes) rfl sc__law_cards.nd (kpil (K := K) rfl (pv 2)) (blkOk_by (N := ["state", "word", "cards", "stage", "name", "fields", "card"]) (sc := defScope s__law_cards) (by decide +kernel))
        (fun _ _ _ _ _ => (pg_name (i := 6) sc__law_cards.nd rfl (.inl rfl))) (fun _ _ _ _ _ => pts_nil)
        (fun _ _ _ _ _ => (pe_ix (kixs (K := K) rfl) (pv 6) pe_int (fun _ _ => rfl)))) rfl))))))) pss_nil)
      (pss_cons (ps_if (pt_cmpR op_eq (pv 3) pe_str (nomark _)) (pss_cons (ps_dput (hu_of hr) (pv 0) pe_str (pv 1) (by rfl))
      (pss_cons (ps_dput (hu_of hr) (pv 0) pe_str pe_str (by rfl))
      (pss_one (ps_ret (pe_cmpR (kin (K := K) rfl) (pv 1) (pe_lc (own := [("name", 4), ("fields", 5)]) (tt := tYes) rfl sc__law_cards.nd (kpil (K := K) rfl (pe_dget (hu_of hr) (pv 0) pe_str (fun _ _ => rfl))) (blkOk_by (N := ["state", "word", "cards", "stage", "name", "fields", "card"]) (sc := defScope s__law_cards) (by decide +kernel))
        (fun _ _ _ _ _ => (kgtup (K := K) (n := 2) rfl rfl (pgs_cons (pg_name (i := 4) sc__law_cards.nd rfl (.inl rfl)) (pgs_cons (pg_name (i := 5) sc__law_cards.nd rfl (.inl rfl)) pgs_nil)))) (fun _ _ _ _ _ => pts_nil)
        (fun _ _ _ _ _ => (pv 4))) rfl))))) pss_nil)
      (pss_cons (ps_if (pt_cmpR op_eq (pv 3) pe_str (nomark _)) (pss_cons (ps_dput (hu_of hr) (pv 0) pe_str pe_str (by rfl))
      (pss_one (ps_ret (pe_cmpR op_eq (pv 1) pe_str (nomark _))))) pss_nil)
      (pss_cons (ps_expr (pe_bm PySem.F.plainAttrs_list PySem.F.slot_list_append PySem.F.type_list_append mt_append (pv 2) (pa_cons (pe_tupF (pa_cons (pe_dget (hu_of hr) (pv 0) pe_str (fun _ _ => rfl)) (pa_cons (pe_dget (hu_of hr) (pv 0) pe_str (fun _ _ => rfl)) (pa_cons (pe_tupF pa_nil) pa_nil)))) pa_nil)))
      (pss_cons (ps_dput (hu_of hr) (pv 0) pe_str (pe_lst (pa_cons (pv 1) pa_nil)) (by rfl))
      (pss_cons (ps_dput (hu_of hr) (pv 0) pe_str pe_str (by rfl))
      (pss_one (ps_ret (C8.pe_c C__law_is_name hr (by omega) rfl (pa_cons (pv 1) pa_nil)))))))))))),
    fn_run2 h (fun po => (z_seq (z_set fun _ => (b_dget (b_up fun _ => a_var) (b_up fun _ => a_str)))
      (z_seq (z_set fun _ => (b_upV 3 fun _ => (a_dget a_var a_str)))
      (z_seq (z_if (fun _ => (b_upT fun _ => (a_test (a_op pst_rv rok_eq a_var a_str)))) (z_seq (z_putD (fun _ => (b_up fun _ => a_var)) (fun _ => (b_up fun _ => a_var)) (fun _ => (b_up fun _ => a_str)))
      (z_seq (z_putD (fun _ => (b_up fun _ => a_str)) (fun _ => (b_up fun _ => a_var)) (fun _ => (b_up fun _ => a_str)))
      (z_ret fun _ => (b_upV 3 fun _ => (a_andV (a_call (a_cons a_var a_nil)) (a_op pst_rv rok_in a_var (a_pk (a_fz (a_lc (vs := [6]) (i_list a_var) (g_name (by decide)) a_yes (a_op pst_pk rok_ix (a_pk a_var) a_int)))))))))) z_next)
      (z_seq (z_if (fun _ => (b_upT fun _ => (a_test (a_op pst_rv rok_eq a_var a_str)))) (z_seq (z_putD (fun _ => (b_up fun _ => a_var)) (fun _ => (b_up fun _ => a_var)) (fun _ => (b_up fun _ => a_str)))
      (z_seq (z_putD (fun _ => (b_up fun _ => a_str)) (fun _ => (b_up fun _ => a_var)) (fun _ => (b_up fun _ => a_str)))
      (z_ret fun _ => (b_upV 3 fun _ => (a_op pst_rv rok_in a_var (a_pk (a_fz (a_lc (vs := [4, 5]) (i_list (a_dget a_var a_str)) (g_tup (g_cons (g_name (by decide)) (g_cons (g_name (by decide)) g_nil tot_name) tot_name)) a_yes a_var)))))))) z_next)
      (z_seq (z_if (fun _ => (b_upT fun _ => (a_test (a_op pst_rv rok_eq a_var a_str)))) (z_seq (z_putD (fun _ => (b_up fun _ => a_str)) (fun _ => (b_up fun _ => a_var)) (fun _ => (b_up fun _ => a_str)))
      (z_ret fun _ => (b_up fun _ => (a_op pst_rv rok_eq a_var a_str)))) z_next)
      (z_seq (z_appC (fun _ => (b_up fun _ => a_var)) (fun _ => (b_upV 3 fun _ => (a_tup (a_cons (a_dget a_var a_str) (a_cons (a_dget a_var a_str) (a_cons (a_tup a_nil) a_nil)))))))
      (z_seq (z_putD (fun _ => (b_cel (b_upF fun _ => (a_lst (a_cons a_var a_nil))))) (fun _ => (b_up fun _ => a_var)) (fun _ => (b_up fun _ => a_str)))
      (z_seq (z_putD (fun _ => (b_up fun _ => a_str)) (fun _ => (b_up fun _ => a_var)) (fun _ => (b_up fun _ => a_str)))
      (z_ret fun _ => (b_up fun _ => (a_call (a_cons a_var a_nil))))))))))))) (fun ds M X P a => by obtain ⟨_, _, _, _, _, _, rfl, _⟩ := a; exact Nat.le_of_ble_eq_true rfl) ?_⟩)
  rintro ds M X P ⟨a, ac, ks, s, kvs, x, rfl, L, ⟨kok, sok, lx⟩, hs, h0, h1'⟩
  have go : ∀ {P : Dat → Prop} {x : Str} {d : Dat}, dgetD kvs (.inr x) = some d → P (vwD 2 M d) → kDget (vwD 3 M (.cell a)) (.str x) P := fun h hp => rdv L.ha h hp
  have l3 := sok.1.l3
  have l8 := kok.l8
  refine zseqG fun N hN => ?_
  walk_at "wq"
  rw [L.ha]
  walk_at "wq"
  rw [L.cards]
  show N _ _
  subst hN
  refine zseqG fun N hN => ?_
  walk_at "wq"
  refine go L.stage ?_
  rw [vw_s]
  refine ⟨rfl, ?_⟩
  subst hN
  refine zseqG fun N hN => ?_
  walk_at "wq"
  refine twoD (fun es => ?_) (fun es => ?_)
  · cases s with
    | name cs =>
      have st1 : step ks (.name cs) x = if isNm x = true ∧ x ∉ cs.map (·.nm) then some (.kind cs x) else none := rfl
      have hc : M ac = some (.lst (cs.map fun c => cdD (noI c))) := L.hc
      refine zseqG fun N2 hN2 => ?_
      walk_at "wq"
      rw [L.ha]
      refine ⟨L.up.len, ?_⟩
      have u := L.up.put (d := .str x) ky_name
      subst hN2
      refine zseqG fun N2 hN2 => ?_
      walk_at "wq"
      refine ⟨u.len, ?_⟩
      have u := u.put (d := .str "kind") ky_stage
      subst hN2
      walk_at "wq"
      refine ⟨x, rfl, lx, ?_⟩
      have uc := (u.nb ac L.ne).trans hc
      generalize (M.put a (some (.dK (putD kvs (.inr "name") (.str x))))).put a (some (.dK (putD (putD kvs (.inr "name") (.str x)) (.inr "stage") (.str "kind")))) = M2 at u uc ⊢
      cases hn : isNm x with
      | false =>
        walk_at "wq"
        exact h0 (st1.trans (if_neg fun z => by rw [hn] at z; cases z.1)) _
      | true =>
        walk_at "wq"
        rw [vw_lst uc, show (cs.map fun c => cdD (noI c)).map (vwD 2 M2) = cs.map fun c => cdD (noI c) from by rw [List.map_map]; rfl]
        walk_at "wq"
        refine ⟨by rw [List.length_map]; exact Nat.le_trans l3 (by decide), ?_⟩
        refine lcA_mapL (g := fun c : Cd => Dat.str c.nm) (fun c hc Q hQ => ?_) ?_
        · rw [show cdD (noI c) = .tup [.str c.nm, .str c.kn, .tup []] from rfl]
          walk_at "wq"
          exact hQ
        rw [show (cs.map fun c : Cd => Dat.str c.nm) = (cs.map (·.nm)).map .str by rw [List.map_map]; rfl]
        refine (show kIn true (.str x) (.lst ((cs.map (·.nm)).map .str)) _ from kIn_nsL ?_)
        refine ⟨rfl, ?_⟩
        by_cases m : x ∈ cs.map (·.nm)
        · rw [decide_eq_true m]
          exact h0 (st1.trans (if_neg fun z => z.2 m)) _
        · rw [decide_eq_false m]
          refine h1' _ _ _ (st1.trans (if_pos ⟨hn, m⟩)) ⟨u.ha, u.hk, ?_, ?_, uc, L.ne, ?_, ?_, ?_⟩
          · walk_at "dgs"
            rfl
          · walk_at "dgs"
            exact L.cards
          · walk_at "dgs"
            exact L.count
          · walk_at "dgs"
            exact L.kinds
          · show dgetD _ _ = _
            walk_at "dgs"
    | kind cs nm => exact absurd es (show ¬ (("kind" : Str) = "name") by decide)
    | frm cs nm kn => exact absurd es (show ¬ (("from" : Str) = "name") by decide)
    | iss0 cs nm kn => exact absurd es (show ¬ (("issuer" : Str) = "name") by decide)
    | _ => exact hs.elim
  subst hN
  refine zseqG fun N hN => ?_
  walk_at "wq"
  refine twoD (fun es2 => ?_) (fun es2 => ?_)
  · cases s with
    | kind cs nm =>
      have st1 : step ks (.kind cs nm) x = if x ∈ ks.map (·.1) then some (.frm cs nm x) else none := rfl
      refine zseqG fun N2 hN2 => ?_
      walk_at "wq"
      rw [L.ha]
      refine ⟨L.up.len, ?_⟩
      have u := L.up.put (d := .str x) ky_kind
      subst hN2
      refine zseqG fun N2 hN2 => ?_
      walk_at "wq"
      refine ⟨u.len, ?_⟩
      have u := u.put (d := .str "from") ky_stage
      subst hN2
      walk_at "wq"
      have uc := (u.nb ac L.ne).trans L.hc
      generalize (M.put a (some (.dK (putD kvs (.inr "kind") (.str x))))).put a (some (.dK (putD (putD kvs (.inr "kind") (.str x)) (.inr "stage") (.str "from")))) = M2 at u uc ⊢
      have ek : dgetD (putD (putD kvs (.inr "kind") (.str x)) (.inr "stage") (.str "from")) (.inr "kinds") = some (.lst (ks.map kdT)) := by
        walk_at "dgs"
        exact L.kinds
      refine rdv u.ha ek ?_
      rw [vw_l]
      walk_at "wq"
      refine ⟨by rw [List.length_map]; exact Nat.le_trans l8 (by decide), ?_⟩
      refine lcA_mapL (g := fun k : Kd => Dat.str k.1) (fun k hk Q hQ => ?_) ?_
      · unfold kdT
        walk_at "wq"
        exact hQ
      rw [show (ks.map fun k : Kd => Dat.str k.1) = (ks.map (·.1)).map .str by rw [List.map_map]; rfl]
      refine (show kIn false (.str x) (.lst ((ks.map (·.1)).map .str)) _ from kIn_sL ?_)
      refine ⟨rfl, ?_⟩
      by_cases m : x ∈ ks.map (·.1)
      · rw [decide_eq_true m]
        refine h1' _ _ _ (st1.trans (if_pos m)) ⟨u.ha, u.hk, ?_, ?_, uc, L.ne, ?_, ?_, ?_, ?_⟩
        · walk_at "dgs"
          rfl
        · walk_at "dgs"
          exact L.cards
        · walk_at "dgs"
          exact L.count
        · exact ek
        · walk_at "dgs"
          exact L.more
        · walk_at "dgs"
      · rw [decide_eq_false m]
        exact h0 (st1.trans (if_neg m)) _
    | name cs => exact absurd rfl es
    | frm cs nm kn => exact absurd es2 (show ¬ (("from" : Str) = "kind") by decide)
    | iss0 cs nm kn => exact absurd es2 (show ¬ (("issuer" : Str) = "kind") by decide)
    | _ => exact hs.elim
  subst hN
  refine zseqG fun N hN => ?_
  walk_at "wq"
  refine twoD (fun es3 => ?_) (fun es3 => ?_)
  · cases s with
    | frm cs nm kn =>
      have st1 : step ks (.frm cs nm kn) x = if x = "from" then some (.iss0 cs nm kn) else none := rfl
      refine zseqG fun N2 hN2 => ?_
      walk_at "wq"
      rw [L.ha]
      refine ⟨L.up.len, ?_⟩
      have u := L.up.put (d := .str "issuer") ky_stage
      subst hN2
      walk_at "wq"
      by_cases m : x = "from"
      · rw [decide_eq_true m]
        refine h1' _ _ _ (st1.trans (if_pos m)) ⟨u.ha, u.hk, ?_, ?_, (u.nb ac L.ne).trans L.hc, L.ne, ?_, ?_, ?_, ?_⟩
        · walk_at "dgs"
          rfl
        · walk_at "dgs"
          exact L.cards
        · walk_at "dgs"
          exact L.count
        · walk_at "dgs"
          exact L.kinds
        · walk_at "dgs"
          exact L.more.1
        · walk_at "dgs"
          exact L.more.2
      · rw [decide_eq_false m]
        exact h0 (st1.trans (if_neg m)) _
    | name cs => exact absurd rfl es
    | kind cs nm => exact absurd rfl es2
    | iss0 cs nm kn => exact absurd es3 (show ¬ (("issuer" : Str) = "from") by decide)
    | _ => exact hs.elim
  cases s with
  | iss0 cs nm kn =>
    have st1 : step ks (.iss0 cs nm kn) x = if isNm x = true then some (.iss cs ⟨nm, kn, [x]⟩) else none := rfl
    have hc : M ac = some (.lst (cs.map fun c => cdD (noI c))) := L.hc
    obtain ⟨hnm, hkn⟩ : dgetD kvs (.inr "name") = some (.str nm) ∧ dgetD kvs (.inr "kind") = some (.str kn) := L.more
    subst hN
    refine zseqG fun N hN => ?_
    walk_at "wq"
    rw [hc]
    refine go hnm (go hkn ?_)
    rw [vw_s, vw_s]
    refine ⟨rfl, ?_⟩
    refine (show (cs.map fun c => cdD (noI c)).length < 100000 ∧ N _ (M.put ac (some (.lst ((cs.map fun c => cdD (noI c)) ++ [.tup [.str nm, .str kn, .tup []]])))) from ⟨by rw [List.length_map]; exact Nat.lt_of_le_of_lt l3 (by decide), ?_⟩)
    have hc1 : (M.put ac (some (.lst ((cs.map fun c => cdD (noI c)) ++ [.tup [.str nm, .str kn, .tup []]])))) ac = some (.lst ((cs ++ [(⟨nm, kn, [x]⟩ : Cd)]).map fun c => cdD (noI c))) := by
      rw [Sto.put_s, List.map_append]
      rfl
    have ha1 : (M.put ac (some (.lst ((cs.map fun c => cdD (noI c)) ++ [.tup [.str nm, .str kn, .tup []]])))) a = some (.dK kvs) := (Sto.put_n (Ne.symm L.ne)).trans L.ha
    generalize M.put ac (some (.lst ((cs.map fun c => cdD (noI c)) ++ [.tup [.str nm, .str kn, .tup []]]))) = M1 at hc1 ha1 ⊢
    clear go
    subst hN
    refine zseqG fun N hN => ?_
    walk_at "wq"
    intro ai hai
    have nia : ai ≠ a := fun z => by rw [z, ha1] at hai; cases hai
    have nic : ai ≠ ac := fun z => by rw [z, hc1] at hai; cases hai
    have ha2 : (M1.put ai (some (.lst [.str x]))) a = some (.dK kvs) := (Sto.put_n (Ne.symm nia)).trans ha1
    have hc2 : (M1.put ai (some (.lst [.str x]))) ac = some (.lst ((cs ++ [(⟨nm, kn, [x]⟩ : Cd)]).map fun c => cdD (noI c))) := (Sto.put_n (Ne.symm nic)).trans hc1
    have hi2 : (M1.put ai (some (.lst [.str x]))) ai = some (.lst [.str x]) := Sto.put_s
    rw [ha2]
    generalize M1.put ai (some (.lst [.str x])) = M2 at ha2 hc2 hi2 ⊢
    have u : UpD M2 a M2 kvs := ⟨ha2, L.hk, fun _ _ => rfl⟩
    refine ⟨u.len, ?_⟩
    have u := u.put (d := .cell ai) ky_issuers
    subst hN
    refine zseqG fun N hN => ?_
    walk_at "wq"
    refine ⟨u.len, ?_⟩
    have u := u.put (d := .str "issuers") ky_stage
    subst hN
    walk_at "wq"
    refine ⟨x, rfl, lx, ?_⟩
    cases hn : isNm x with
    | true =>
      refine h1' _ _ _ (st1.trans (if_pos hn)) ⟨u.ha, u.hk, ?_, ?_, (u.nb ac L.ne).trans hc2, L.ne, ?_, ?_, ai, ?_, (u.nb ai nia).trans hi2, nia, nic⟩
      · walk_at "dgs"
        rfl
      · walk_at "dgs"
        exact L.cards
      · walk_at "dgs"
        exact L.count
      · walk_at "dgs"
        exact L.kinds
      · walk_at "dgs"
    | false => exact h0 (st1.trans (if_neg fun z => by rw [hn] at z; cases z)) _
  | name cs => exact absurd rfl es
  | kind cs nm => exact absurd rfl es2
  | frm cs nm kn => exact absurd rfl es3
  | _ => exact hs.elim
end
theorem cutLast {xs : List Dat} : cutD xs none (some (-1)) = xs.dropLast := by
  have e : HT.sIx xs.length xs.length (some (-1)) = xs.length - 1 := by
    show (if (-1 : Int) < 0 then ((-1 : Int) + (xs.length : Int)).toNat else min (-1 : Int).toNat xs.length) = _
    rw [if_pos (by decide)]
    omega
  unfold cutD
  rw [e, show HT.sIx xs.length 0 none = 0 from rfl, List.drop_zero, Nat.sub_zero, List.dropLast_eq_take]
abbrev s__law_next : Stmt := top 48
theorem sc__law_next : FnScope ["state", "word", "issuers", "good"] ["state", "word"] (defScope s__law_next) := ⟨rfl, rfl, rfl, by decide +kernel, rfl, by decide +kernel, by decide +kernel⟩
local macro_rules | `(tactic| walk_at "dgs") => `(tactic| (simp only [dgetD_put, ofS_inj, Sum.inr.injEq, String.reduceEq, reduceIte]))
section
variable {P : Program} {w : World} {K : PySem.W.Frag} {mg : Str → Option Value} {base : Heap} {ca : Nat → Addr} {gKW gCW : Addr}
def bspLNxt : BSp := fun ds M X P => ∃ (a ac : Addr) (ks : List Kd) (s : Stt) (kvs : List (Key × Dat)) (x : Str), ds = [.cell a, .str x] ∧ LwSt M a ac ks s kvs ∧ (KsA ks ∧ LOk ks s ∧ x.length ≤ 1000 ∧ PyData.strOk x = true) ∧ (step ks s x = none → ∀ M', P (.bl false) M') ∧ ∀ s' kvs' M', step ks s x = some s' → LwSt M' a ac ks s' kvs' → P (.bl true) M'
/-- the state as it begins a part anew -/
theorem LwSt.anew {M : Sto} {a ac : Addr} {ks : List Kd} {s : Stt} {kvs : List (Key × Dat)} (L : LwSt M a ac ks s kvs) : LwSt (M.put a (some (.dK (putD kvs (.inr "stage") (.str "start"))))) a ac ks (.start (stC s) (stN s)) (putD kvs (.inr "stage") (.str "start")) := by
  have u := L.up.put (d := .str "start") ky_stage
  refine ⟨u.ha, u.hk, ?_, ?_, (u.nb ac L.ne).trans L.hc, L.ne, ?_, ?_, trivial⟩
  · walk_at "dgs"
    rfl
  · walk_at "dgs"
    exact L.cards
  · walk_at "dgs"
    exact L.count
  · walk_at "dgs"
    exact L.kinds
theorem ok_law_next {f : Addr} {fd : FuncData} (F : Fun K "_law_next" "_law_next" s__law_next f fd) (B : Blt mg) (C__law_is_name : C8.Cal P w K mg base 1 "_law_is_name" (toSp K ca aspLIsName) []) (C__law_is_number : C8.Cal P w K mg base 1 "_law_is_number" (toSp K ca aspLIsNum) []) (C__law_start : C8.Cal P w K mg base 2 "_law_start" (toSp2 K ca bspLwStart) []) (C__law_picks : C8.Cal P w K mg base 2 "_law_picks" (toSp2 K ca bspLPick) []) (C__law_cards : C8.Cal P w K mg base 2 "_law_cards" (toSp2 K ca bspLCrd) []) : FnOk P w K mg base CX0 3 f fd ["state", "word"] (toSp2 K ca bspLNxt) := by
  refine F.ok sc__law_next (fun vs H Q E h => sp_len2 (n := 2) (fun ds M X P a => by obtain ⟨_, _, _, _, _, _, rfl, _⟩ := a; rfl) h) (fun cdv A outer s H vs Q E hr h => ⟨_, (C8.pss_cut (ps_if (pt_cmpR op_eq (pe_dget (hu_of hr) (pv 0) pe_str (fun _ _ => rfl)) pe_str (nomark _)) (pss_cons (ps_set (i := 2) sc__law_next.nd rfl (.inl rfl) (pe_dget (hu_of hr) (pv 0) pe_str (fun _ _ => rfl)))
      (pss_cons (ps_if (PW.pt (pw_and (pt_val (C8.pe_c C__law_is_name hr (by omega) rfl (pa_cons (pv 1) pa_nil))) (pw_and1 (pt_cmpR op_lt (pe_callB (klen (K := K) rfl) (by rfl) B.len bt_len (pa_cons (pv 2) pa_nil)) pe_int (nomark _))))) (pss_cons (ps_expr (pe_bm PySem.F.plainAttrs_list PySem.F.slot_list_append PySem.F.type_list_append mt_append (pv 2) (pa_cons (pv 1) pa_nil)))
      (pss_one (ps_ret (pe_cmpR (knin (K := K) rfl) (pv 1) (pe_slice (ksll (K := K) rfl) (pv 2) po_none (po_some (pe_un un_neg pe_int))) rfl)))) pss_nil)
      (pss_one (ps_dput (hu_of hr) (pv 0) pe_str pe_str (by rfl))))) pss_nil)
      (C8.pss_cut (ps_if (pt_cmpR op_eq (pe_dget (hu_of hr) (pv 0) pe_str (fun _ _ => rfl)) pe_str (nomark _)) (pss_cons (ps_if (pt_val (C8.pe_c C__law_is_number hr (by omega) rfl (pa_cons (pv 1) (pa_cons pe_int (pa_cons pe_int pa_nil))))) (pss_cons (ps_set (i := 3) sc__law_next.nd rfl (.inl rfl) (C8.pe_c C__law_is_number hr (by omega) rfl (pa_cons (pv 1) (pa_cons (pe_dget (hu_of hr) (pv 0) pe_str (fun _ _ => rfl)) (pa_cons (pe_dget (hu_of hr) (pv 0) pe_str (fun _ _ => rfl)) pa_nil)))))
      (pss_cons (ps_dput (hu_of hr) (pv 0) pe_str (pe_op op_add (pe_callTy call_int_str (by rfl) B.int bt_int (pa_cons (pv 1) pa_nil)) pe_int) (by rfl))
      (pss_one (ps_ret (pv 3))))) pss_nil)
      (pss_one (ps_dput (hu_of hr) (pv 0) pe_str pe_str (by rfl)))) pss_nil)
      (pss_cons (ps_if (pt_cmpR op_eq (pe_dget (hu_of hr) (pv 0) pe_str (fun _ _ => rfl)) pe_str (nomark _)) (pss_one (ps_ret (C8.pe_c C__law_start hr (by omega) rfl (pa_cons (pv 0) (pa_cons (pv 1) pa_nil))))) pss_nil)
      (pss_cons (ps_if (pt_cmpR (kin (K := K) rfl) (pe_dget (hu_of hr) (pv 0) pe_str (fun _ _ => rfl)) (pe_tupF (pa_cons pe_str (pa_cons pe_str pa_nil))) rfl) (pss_one (ps_ret (C8.pe_c C__law_picks hr (by omega) rfl (pa_cons (pv 0) (pa_cons (pv 1) pa_nil))))) pss_nil)
      (pss_cons (ps_if (pt_cmpR op_eq (pe_dget (hu_of hr) (pv 0) pe_str (fun _ _ => rfl)) pe_str (nomark _)) (pss_cons (ps_dput (hu_of hr) (pv 0) pe_str (pe_ix (kixs (K := K) rfl) (pe_tupF (pa_cons pe_str (pa_cons pe_str pa_nil))) (pe_callTy call_int1 (by rfl) B.int bt_int (pa_cons (pe_cmpR op_eq (pe_dget (hu_of hr) (pv 0) pe_str (fun _ _ => rfl)) pe_str (nomark _)) pa_nil)) (fun _ _ => rfl)) (by rfl))
      (pss_cons (ps_if (pt_not (pt_val (C8.pe_c C__law_is_number hr (by omega) rfl (pa_cons (pv 1) (pa_cons pe_int (pa_cons (pe_dget (hu_of hr) (pv 0) pe_str (fun _ _ => rfl)) pa_nil)))))) (pss_one (ps_ret pe_bl)) pss_nil)
      (pss_cons (ps_dput (hu_of hr) (pv 0) pe_str (pe_op op_add (pe_callTy call_int_str (by rfl) B.int bt_int (pa_cons (pv 1) pa_nil)) pe_int) (by rfl))
      (pss_one (ps_ret pe_bl))))) pss_nil)
      (pss_one (ps_ret (C8.pe_c C__law_cards hr (by omega) rfl (pa_cons (pv 0) (pa_cons (pv 1) pa_nil)))))))))),
    fn_run2 h (fun po => (z_cut (z_if (fun _ => (b_upVT 3 fun _ => (a_test (a_op pst_rv rok_eq (a_dget a_var a_str) a_str)))) (z_seq (z_set fun _ => (b_dget (b_up fun _ => a_var) (b_up fun _ => a_str)))
      (z_seq (z_if (fun _ => (b_upVT 3 fun _ => (a_and (a_tb (a_call (a_cons a_var a_nil))) (a_test (a_op pst_rv rok_B0 (a_b1 u_len (a_pk a_var)) a_int))))) (z_seq (z_appC (fun _ => (b_up fun _ => a_var)) (fun _ => (b_up fun _ => a_var)))
      (z_ret fun _ => (b_upV 3 fun _ => (a_op pst_rv rok_in a_var (a_pk (a_fz (a_slL (a_pk a_var) ao_none (ao_some (a_neg a_int))))))))) z_next)
      (z_putD (fun _ => (b_up fun _ => a_str)) (fun _ => (b_up fun _ => a_var)) (fun _ => (b_up fun _ => a_str))))) z_next)
      (z_cut (z_if (fun _ => (b_upVT 3 fun _ => (a_test (a_op pst_rv rok_eq (a_dget a_var a_str) a_str)))) (z_seq (z_if (fun _ => (b_upT fun _ => (a_tb (a_call (a_cons a_var (a_cons a_int (a_cons a_int a_nil))))))) (z_seq (z_set fun _ => (b_upV 3 fun _ => (a_call (a_cons a_var (a_cons (a_dget a_var a_str) (a_cons (a_dget a_var a_str) a_nil))))))
      (z_seq (z_putD (fun _ => (b_up fun _ => (a_op pst_rv rok_I0 (a_b1 u_intS a_var) a_int))) (fun _ => (b_up fun _ => a_var)) (fun _ => (b_up fun _ => a_str)))
      (z_ret fun _ => (b_up fun _ => a_var)))) z_next)
      (z_putD (fun _ => (b_up fun _ => a_str)) (fun _ => (b_up fun _ => a_var)) (fun _ => (b_up fun _ => a_str)))) z_next)
      (z_seq (z_if (fun _ => (b_upVT 3 fun _ => (a_test (a_op pst_rv rok_eq (a_dget a_var a_str) a_str)))) (z_ret fun _ => (b_call2 (b_cons (b_up fun _ => a_var) (b_cons (b_up fun _ => a_var) b_nil)))) z_next)
      (z_seq (z_if (fun _ => (b_upVT 3 fun _ => (a_test (a_op pst_rv rok_in (a_dget a_var a_str) (a_pk (a_tup (a_cons a_str (a_cons a_str a_nil)))))))) (z_ret fun _ => (b_call2 (b_cons (b_up fun _ => a_var) (b_cons (b_up fun _ => a_var) b_nil)))) z_next)
      (z_seq (z_if (fun _ => (b_upVT 3 fun _ => (a_test (a_op pst_rv rok_eq (a_dget a_var a_str) a_str)))) (z_seq (z_putD (fun _ => (b_upV 3 fun _ => (a_op pst_pk rok_ix (a_pk (a_tup (a_cons a_str (a_cons a_str a_nil)))) (a_b1 u_int (a_op pst_rv rok_eq (a_dget a_var a_str) a_str))))) (fun _ => (b_up fun _ => a_var)) (fun _ => (b_up fun _ => a_str)))
      (z_seq (z_if (fun _ => (b_upVT 3 fun _ => (a_not (a_tb (a_call (a_cons a_var (a_cons a_int (a_cons (a_dget a_var a_str) a_nil)))))))) (z_ret fun _ => (b_up fun _ => a_bl)) z_next)
      (z_seq (z_putD (fun _ => (b_up fun _ => (a_op pst_rv rok_I0 (a_b1 u_intS a_var) a_int))) (fun _ => (b_up fun _ => a_var)) (fun _ => (b_up fun _ => a_str)))
      (z_ret fun _ => (b_up fun _ => a_bl))))) z_next)
      (z_ret fun _ => (b_call2 (b_cons (b_up fun _ => a_var) (b_cons (b_up fun _ => a_var) b_nil)))))))))) (fun ds M X P a => by obtain ⟨_, _, _, _, _, _, rfl, _⟩ := a; exact Nat.le_of_ble_eq_true rfl) ?_⟩)
  rintro ds M X P ⟨a, ac, ks, s, kvs, x, rfl, L, ⟨kok, sok, lx, sx⟩, h0, h1'⟩
  have hSt : ∃ W : Str → List Sl → Sto → Prop, ∀ g env M', W g env M' ↔ ∃ (t2 t3 : Sl) (s1 : Stt) (kvs1 : List (Key × Dat)), env = [Sl.d (.cell a), Sl.d (.str x), t2, t3] ∧ LwSt M' a ac ks s1 kvs1 ∧ LOk ks s1 ∧ step ks s1 x = step ks s x ∧ stgS s1 ≠ "issuers" ∧ (g = "numbers" → stgS s1 ≠ "numbers") := ⟨_, fun _ _ _ => Iff.rfl⟩
  obtain ⟨W, hW⟩ := hSt
  refine ⟨W "issuers", ?_, fun env' M' w => ?_⟩
  · walk_at "wq"
    refine rdv L.ha L.stage ?_
    rw [vw_s]
    walk_at "wq"
    refine twoD (fun es => ?_) (fun es => (hW _ _ _).mpr ⟨_, _, s, kvs, rfl, L, sok, rfl, es, fun z => absurd z (by decide)⟩)
    cases s with
    | iss cs c =>
      have st1 : step ks (.iss cs c) x = if isNm x = true ∧ c.is.length < 3 then (if x ∈ c.is then none else some (.iss cs ⟨c.nm, c.kn, c.is ++ [x]⟩)) else stStart ks (cs ++ [c]) 0 x := rfl
      obtain ⟨ai, hi, hai, nia, nic⟩ := L.more
      have l3 : c.is.length ≤ 3 := sok.2
      refine zseqG fun N hN => ?_
      walk_at "wq"
      rw [L.ha]
      walk_at "wq"
      rw [hi]
      show N _ _
      have nope : ¬ (isNm x = true ∧ c.is.length < 3) → W "issuers" [Sl.d (.cell a), Sl.d (.str x), Sl.d (.cell ai), Sl.u] (M.put a (some (.dK (putD kvs (.inr "stage") (.str "start"))))) := fun h => (hW _ _ _).mpr ⟨_, _, _, _, rfl, L.anew, ⟨sok.1, trivial⟩, (st1.trans (if_neg h)).symm, (show ¬ (("start" : Str) = "issuers") by decide), fun _ => (show ¬ (("start" : Str) = "numbers") by decide)⟩
      subst hN
      refine zseqG fun N hN => ?_
      walk_at "wq"
      refine ⟨x, rfl, lx, ?_⟩
      cases hn : isNm x with
      | false =>
        walk_at "wq"
        subst hN
        walk_at "wq"
        rw [L.ha]
        exact ⟨L.up.len, nope fun z => by rw [hn] at z; cases z.1⟩
      | true =>
        walk_at "wq"
        rw [vw_lst hai]
        walk_at "wq"
        rw [List.length_map, List.length_map]
        refine twoD (fun h3 => ?_) (fun h3 => ?_)
        · have h3 : (c.is.length : Int) < 3 := h3
          refine zseqG fun N2 hN2 => ?_
          walk_at "wq"
          rw [hai]
          refine (show (c.is.map Dat.str).length < 100000 ∧ N2 _ (M.put ai (some (.lst (c.is.map Dat.str ++ [.str x])))) from ⟨by rw [List.length_map]; exact Nat.lt_of_le_of_lt l3 (by decide), ?_⟩)
          have hi2 : (M.put ai (some (.lst (c.is.map Dat.str ++ [.str x])))) ai = some (.lst ((c.is ++ [x]).map .str)) := by
            rw [Sto.put_s, List.map_append]
            rfl
          have ha2 : (M.put ai (some (.lst (c.is.map Dat.str ++ [.str x])))) a = some (.dK kvs) := (Sto.put_n (Ne.symm nia)).trans L.ha
          have hc2 : (M.put ai (some (.lst (c.is.map Dat.str ++ [.str x])))) ac = some (.lst ((cs ++ [c]).map fun c => cdD (noI c))) := (Sto.put_n (Ne.symm nic)).trans L.hc
          generalize M.put ai (some (.lst (c.is.map Dat.str ++ [.str x]))) = M2 at hi2 ha2 hc2 ⊢
          subst hN2
          walk_at "wq"
          rw [vw_lst hi2, show ((c.is ++ [x]).map Dat.str).map (vwD 2 M2) = (c.is ++ [x]).map .str from by rw [List.map_map]; rfl]
          walk_at "wq"
          rw [cutLast, show ((c.is ++ [x]).map Dat.str).dropLast = c.is.map .str from by rw [List.map_append]; exact List.dropLast_concat]
          refine kIn_nsL ?_
          refine ⟨rfl, ?_⟩
          have hcs : (cs ++ [c]).map (fun c => cdD (noI c)) = (cs ++ [(⟨c.nm, c.kn, c.is ++ [x]⟩ : Cd)]).map fun c => cdD (noI c) := by
            rw [List.map_append, List.map_append]
            rfl
          by_cases m : x ∈ c.is
          · rw [decide_eq_true m]
            exact h0 (st1.trans ((if_pos ⟨hn, by omega⟩).trans (if_pos m))) _
          · rw [decide_eq_false m]
            exact h1' _ _ _ (st1.trans ((if_pos ⟨hn, by omega⟩).trans (if_neg m))) ⟨ha2, L.hk, L.stage, L.cards, hc2.trans (by rw [hcs]; rfl), L.ne, L.count, L.kinds, ai, hi, hi2, nia, nic⟩
        · have h3 : ¬ (c.is.length : Int) < 3 := h3
          subst hN
          walk_at "wq"
          rw [L.ha]
          exact ⟨L.up.len, nope fun z => by have := z.2; omega⟩
    | start cs k => exact absurd es (show ¬ (("start" : Str) = "issuers") by decide)
    | name cs => exact absurd es (show ¬ (("name" : Str) = "issuers") by decide)
    | kind cs nm => exact absurd es (show ¬ (("kind" : Str) = "issuers") by decide)
    | frm cs nm kn => exact absurd es (show ¬ (("from" : Str) = "issuers") by decide)
    | iss0 cs nm kn => exact absurd es (show ¬ (("issuer" : Str) = "issuers") by decide)
    | card cs k wd wo => exact absurd es (show ¬ (("card" : Str) = "issuers") by decide)
    | fld cs k wd wo cn => exact absurd es (show ¬ (("field" : Str) = "issuers") by decide)
    | num cs k wd v => exact absurd es (show ¬ (("number" : Str) = "issuers") by decide)
    | nums cs k v lo => exact absurd es (show ¬ (("numbers" : Str) = "issuers") by decide)
  obtain ⟨t2, t3, s1, kvs1, rfl, L1, sok1, est, ng1, _⟩ := (hW _ _ _).mp w
  clear w L sok
  refine ⟨W "numbers", ?_, fun env' M' w => ?_⟩
  · walk_at "wq"
    refine rdv L1.ha L1.stage ?_
    rw [vw_s]
    walk_at "wq"
    refine twoD (fun es => ?_) (fun es => (hW _ _ _).mpr ⟨_, _, s1, kvs1, rfl, L1, sok1, est, ng1, fun _ => es⟩)
    cases s1 with
    | nums cs k v lo =>
      have st1 : step ks (.nums cs k v lo) x = if x ∈ wrt 0 100 then (if x ∈ wrt lo v.sz then some (.nums cs k v (numW x + 1)) else none) else stStart ks cs k x := rfl
      rw [← est] at h0 h1'
      obtain ⟨hlo, hmo⟩ : dgetD kvs1 (.inr "least") = some (.int lo) ∧ dgetD kvs1 (.inr "most") = some (.int (v.sz - 1)) := L1.more
      obtain ⟨mv, lo0, lo1⟩ : v ∈ valsO ks cs ∧ 0 ≤ lo ∧ lo ≤ 100 := sok1.2
      have vz := ((sok1.1.vals kok).2 v mv).2.1
      refine zseqG fun N hN => ?_
      walk_at "wq"
      refine ⟨x, 0, 99, rfl, ⟨lx, Int.le_refl _, Int.le_refl _⟩, ?_⟩
      rw [show (99 : Int) + 1 = 100 from rfl]
      walk_at "wq"
      refine twoD (fun m => ?_) (fun m => ?_)
      · obtain ⟨j, j0, j1, rfl⟩ := wrt_ex m
        obtain ⟨i1, i2⟩ := txt_at j0 j1
        refine zseqG fun N2 hN2 => ?_
        walk_at "wq"
        refine rdv L1.ha hlo (rdv L1.ha hmo ?_)
        rw [vw_i, vw_i]
        refine ⟨toString j, lo, v.sz - 1, rfl, ⟨lx, lo0, by omega⟩, ?_⟩
        refine ⟨rfl, ?_⟩
        rw [show v.sz - 1 + 1 = v.sz by omega]
        subst hN2
        refine zseqG fun N2 hN2 => ?_
        walk_at "wq"
        unfold kIntS
        dsimp only
        rw [show PySem.intText? (Str.ofString (toString j)) = some j from i1]
        dsimp only
        refine ⟨i2, ?_⟩
        walk_at "wq"
        rw [L1.ha]
        refine ⟨L1.up.len, ?_⟩
        have u := L1.up.put (d := .int (j + 1)) ky_least
        subst hN2
        walk_at "wq"
        by_cases m2 : (toString j : Str) ∈ wrt lo v.sz
        · refine (show P (.bl (decide ((toString j : Str) ∈ wrt lo v.sz))) _ from ?_)
          rw [decide_eq_true m2]
          refine h1' _ _ _ (st1.trans ((if_pos m).trans (if_pos m2))) ⟨u.ha, u.hk, ?_, ?_, (u.nb ac L1.ne).trans L1.hc, L1.ne, ?_, ?_, ?_, ?_⟩
          · walk_at "dgs"
            exact L1.stage
          · walk_at "dgs"
            exact L1.cards
          · walk_at "dgs"
            exact L1.count
          · walk_at "dgs"
            exact L1.kinds
          · rw [num_txt j0 j1]
            walk_at "dgs"
          · walk_at "dgs"
            exact hmo
        · refine (show P (.bl (decide ((toString j : Str) ∈ wrt lo v.sz))) _ from ?_)
          rw [decide_eq_false m2]
          exact h0 (st1.trans ((if_pos m).trans (if_neg m2))) _
      · subst hN
        walk_at "wq"
        rw [L1.ha]
        exact ⟨L1.up.len, (hW _ _ _).mpr ⟨_, _, _, _, rfl, L1.anew, ⟨sok1.1, trivial⟩, (st1.trans (if_neg m)).symm.trans est, (show ¬ (("start" : Str) = "issuers") by decide), fun _ => (show ¬ (("start" : Str) = "numbers") by decide)⟩⟩
    | start cs k => exact absurd es (show ¬ (("start" : Str) = "numbers") by decide)
    | name cs => exact absurd es (show ¬ (("name" : Str) = "numbers") by decide)
    | kind cs nm => exact absurd es (show ¬ (("kind" : Str) = "numbers") by decide)
    | frm cs nm kn => exact absurd es (show ¬ (("from" : Str) = "numbers") by decide)
    | iss0 cs nm kn => exact absurd es (show ¬ (("issuer" : Str) = "numbers") by decide)
    | iss cs c => exact absurd rfl ng1
    | card cs k wd wo => exact absurd es (show ¬ (("card" : Str) = "numbers") by decide)
    | fld cs k wd wo cn => exact absurd es (show ¬ (("field" : Str) = "numbers") by decide)
    | num cs k wd v => exact absurd es (show ¬ (("number" : Str) = "numbers") by decide)
  obtain ⟨t2', t3', s2, kvs2, rfl, L2, sok2, est2, ng2, ng3⟩ := (hW _ _ _).mp w
  clear w hW W
  have ng3 := ng3 rfl
  rw [← est2] at h0 h1'
  clear est2
  refine zseqG fun N hN => ?_
  walk_at "wq"
  refine rdv L2.ha L2.stage ?_
  rw [vw_s]
  walk_at "wq"
  refine twoD (fun es => ?_) (fun e1 => ?_)
  · cases s2 with
    | start cs k => exact ⟨a, ac, ks, cs, k, kvs2, x, rfl, L2, ⟨kok, sok2.1⟩, h0, h1'⟩
    | name cs => exact absurd es (show ¬ (("name" : Str) = "start") by decide)
    | kind cs nm => exact absurd es (show ¬ (("kind" : Str) = "start") by decide)
    | frm cs nm kn => exact absurd es (show ¬ (("from" : Str) = "start") by decide)
    | iss0 cs nm kn => exact absurd es (show ¬ (("issuer" : Str) = "start") by decide)
    | iss cs c => exact absurd es (show ¬ (("issuers" : Str) = "start") by decide)
    | card cs k wd wo => exact absurd es (show ¬ (("card" : Str) = "start") by decide)
    | fld cs k wd wo cn => exact absurd es (show ¬ (("field" : Str) = "start") by decide)
    | num cs k wd v => exact absurd es (show ¬ (("number" : Str) = "start") by decide)
    | nums cs k v lo => exact absurd es (show ¬ (("numbers" : Str) = "start") by decide)
  subst hN
  refine zseqG fun N hN => ?_
  walk_at "wq"
  refine rdv L2.ha L2.stage ?_
  rw [vw_s]
  refine (show kIn false (.str (stgS s2)) (.tup ((["card", "field"] : List Str).map .str)) _ from kIn_sT ?_)
  walk_at "wq"
  refine twoD (fun es => ?_) (fun e2 => ?_)
  · cases s2 with
    | card cs k wd wo => exact ⟨a, ac, ks, _, kvs2, x, rfl, L2, ⟨kok, sok2.1, sx⟩, sok2.2, h0, h1'⟩
    | fld cs k wd wo cn => exact ⟨a, ac, ks, _, kvs2, x, rfl, L2, ⟨kok, sok2.1, sx⟩, sok2.2, h0, h1'⟩
    | start cs k => exact absurd es (show ¬ (("start" : Str) ∈ (["card", "field"] : List Str)) by decide)
    | name cs => exact absurd es (show ¬ (("name" : Str) ∈ (["card", "field"] : List Str)) by decide)
    | kind cs nm => exact absurd es (show ¬ (("kind" : Str) ∈ (["card", "field"] : List Str)) by decide)
    | frm cs nm kn => exact absurd es (show ¬ (("from" : Str) ∈ (["card", "field"] : List Str)) by decide)
    | iss0 cs nm kn => exact absurd es (show ¬ (("issuer" : Str) ∈ (["card", "field"] : List Str)) by decide)
    | iss cs c => exact absurd es (show ¬ (("issuers" : Str) ∈ (["card", "field"] : List Str)) by decide)
    | num cs k wd v => exact absurd es (show ¬ (("number" : Str) ∈ (["card", "field"] : List Str)) by decide)
    | nums cs k v lo => exact absurd es (show ¬ (("numbers" : Str) ∈ (["card", "field"] : List Str)) by decide)
  subst hN
  refine zseqG fun N hN => ?_
  walk_at "wq"
  refine rdv L2.ha L2.stage ?_
  rw [vw_s]
  walk_at "wq"
  refine twoD (fun es => ?_) (fun e3 => ?_)
  · cases s2 with
    | num cs k wd v =>
      have st1 : step ks (.num cs k wd v) x = if x ∈ wrt 0 v.sz then some (if wd = "among" then .nums cs k v (numW x + 1) else .start cs k) else none := rfl
      obtain ⟨hwd, hmo⟩ : dgetD kvs2 (.inr "word") = some (.str wd) ∧ dgetD kvs2 (.inr "most") = some (.int (v.sz - 1)) := L2.more
      have mv : v ∈ valsO ks cs := sok2.2
      have vz := (sok2.1.vals kok).2 v mv
      obtain ⟨sg, hsg⟩ : ∃ sg : Str, sg = if wd = "among" then "numbers" else "start" := ⟨_, rfl⟩
      have eix : ∀ Q : Dat → Prop, Q (.str sg) → kIx (.tup [.str "start", .str "numbers"]) (.int (if decide (wd = Str.ofString "among") = true then 1 else 0)) Q := fun Q hQ => by
        by_cases e : wd = "among"
        · rw [if_pos e] at hsg
          subst hsg
          rw [if_pos (decide_eq_true e)]
          exact hQ
        · rw [if_neg e] at hsg
          subst hsg
          rw [if_neg (by rw [decide_eq_false e]; decide)]
          exact hQ
      refine zseqG fun N hN => ?_
      walk_at "wq"
      refine rdv L2.ha hwd ?_
      rw [vw_s]
      walk_at "wq"
      refine eix _ ?_
      refine ⟨rfl, ?_⟩
      rw [L2.ha]
      refine ⟨L2.up.len, ?_⟩
      have u := L2.up.put (d := .str sg) ky_stage
      have emo : dgetD (putD kvs2 (.inr "stage") (.str sg)) (.inr "most") = some (.int (v.sz - 1)) := by
        walk_at "dgs"
        exact hmo
      refine (show N _ (M'.put a (some (.dK (putD kvs2 (.inr "stage") (.str sg))))) from ?_)
      subst hN
      refine zseqG fun N hN => ?_
      walk_at "wq"
      refine rdv u.ha emo ?_
      rw [vw_i]
      refine ⟨x, 0, v.sz - 1, rfl, ⟨lx, Int.le_refl _, by omega⟩, ?_⟩
      rw [show v.sz - 1 + 1 = v.sz by omega]
      walk_at "wq"
      refine twoN (fun m => h0 (st1.trans (if_neg m)) _) (fun m => ?_)
      obtain ⟨j, j0, j1, rfl⟩ := wrt_ex m
      obtain ⟨i1, i2⟩ := txt_at j0 (show j < 100 by omega)
      subst hN
      refine zseqG fun N hN => ?_
      walk_at "wq"
      unfold kIntS
      dsimp only
      rw [show PySem.intText? (Str.ofString (toString j)) = some j from i1]
      dsimp only
      refine ⟨i2, ?_⟩
      walk_at "wq"
      refine ⟨u.len, ?_⟩
      have u := u.put (d := .int (j + 1)) ky_least
      subst hN
      walk_at "wq"
      by_cases e : wd = "among"
      · rw [if_pos e] at hsg
        subst hsg
        refine h1' _ _ _ (st1.trans ((if_pos m).trans (congrArg some (if_pos e)))) ⟨u.ha, u.hk, ?_, ?_, (u.nb ac L2.ne).trans L2.hc, L2.ne, ?_, ?_, ?_, ?_⟩
        · walk_at "dgs"
          rfl
        · walk_at "dgs"
          exact L2.cards
        · walk_at "dgs"
          exact L2.count
        · walk_at "dgs"
          exact L2.kinds
        · rw [num_txt j0 (by omega)]
          walk_at "dgs"
        · walk_at "dgs"
          exact hmo
      · rw [if_neg e] at hsg
        subst hsg
        refine h1' _ _ _ (st1.trans ((if_pos m).trans (congrArg some (if_neg e)))) ⟨u.ha, u.hk, ?_, ?_, (u.nb ac L2.ne).trans L2.hc, L2.ne, ?_, ?_, trivial⟩
        · walk_at "dgs"
          rfl
        · walk_at "dgs"
          exact L2.cards
        · walk_at "dgs"
          exact L2.count
        · walk_at "dgs"
          exact L2.kinds
    | start cs k => exact absurd es (show ¬ (("start" : Str) = "number") by decide)
    | name cs => exact absurd es (show ¬ (("name" : Str) = "number") by decide)
    | kind cs nm => exact absurd es (show ¬ (("kind" : Str) = "number") by decide)
    | frm cs nm kn => exact absurd es (show ¬ (("from" : Str) = "number") by decide)
    | iss0 cs nm kn => exact absurd es (show ¬ (("issuer" : Str) = "number") by decide)
    | iss cs c => exact absurd es (show ¬ (("issuers" : Str) = "number") by decide)
    | card cs k wd wo => exact absurd es (show ¬ (("card" : Str) = "number") by decide)
    | fld cs k wd wo cn => exact absurd es (show ¬ (("field" : Str) = "number") by decide)
    | nums cs k v lo => exact absurd es (show ¬ (("numbers" : Str) = "number") by decide)
  subst hN
  walk_at "wq"
  refine ⟨a, ac, ks, s2, kvs2, x, rfl, L2, ⟨kok, sok2, lx⟩, ?_, h0, h1'⟩
  cases s2 with
  | start cs k => exact absurd rfl e1
  | iss cs c => exact absurd rfl ng2
  | card cs k wd wo => exact absurd List.mem_cons_self e2
  | fld cs k wd wo cn => exact absurd (List.mem_cons_of_mem _ List.mem_cons_self) e2
  | num cs k wd v => exact absurd rfl e3
  | nums cs k v lo => exact absurd rfl ng3
  | _ => trivial
end
abbrev s__law_wrong : Stmt := top 49
theorem sc__law_wrong : FnScope ["words", "kinds", "state", "at"] ["words", "kinds"] (defScope s__law_wrong) := ⟨rfl, rfl, rfl, by decide +kernel, rfl, by decide +kernel, by decide +kernel⟩
section
variable {P : Program} {w : World} {K : PySem.W.Frag} {mg : Str → Option Value} {base : Heap} {ca : Nat → Addr} {gKW gCW : Addr}
def wrD : Option Nat → Dat
  | none => .non
  | some n => .int n
def aspLWr : ASp := fun ds P => ∃ (ks : List Kd) (ws : List Str), ds = [.lst (ws.map .str), .lst (ks.map kdT)] ∧ (KsA ks ∧ ws.length ≤ 1000 ∧ ∀ x ∈ ws, x.length ≤ 1000 ∧ PyData.strOk x = true) ∧ P (wrD (wrongO ks ws))
theorem ok_law_wrong {f : Addr} {fd : FuncData} (F : Fun K "_law_wrong" "_law_wrong" s__law_wrong f fd) (B : Blt mg) (C__law_next : C8.Cal P w K mg base 3 "_law_next" (toSp2 K ca bspLNxt) []) : FnOk P w K mg base CX0 4 f fd ["words", "kinds"] (toSp K ca aspLWr) := by
  refine F.ok sc__law_wrong (fun vs H Q E h => sp_len (n := 2) (fun ds P a => by obtain ⟨_, _, rfl, _⟩ := a; rfl) h) (fun cdv A outer s H vs Q E hr h => ⟨_, (pss_cons (ps_set (i := 2) sc__law_wrong.nd rfl (.inl rfl) (pe_disp (pps_cons pe_str pe_str (pps_cons pe_str (pe_lst pa_nil) (pps_cons pe_str pe_int (pps_cons pe_str (pv 1) (pps_cons pe_str pe_non pps_nil))))) (by rfl) (by rfl) (fun z => nomatch z) (by decide)))
      (pss_cons (ps_for PassesOwn.never rfl (pi_range1 rfl B.range (pa_cons (pe_callB (klen (K := K) rfl) (by rfl) B.len bt_len (pa_cons (pv 0) pa_nil)) pa_nil)) (pg_name (i := 3) sc__law_wrong.nd rfl (.inl rfl))
      (pss_one (ps_if (pt_not (pt_val (C8.pe_c C__law_next hr (by omega) rfl (pa_cons (pv 2) (pa_cons (pe_ix (kixs (K := K) rfl) (pv 0) (pv 3) (fun _ _ => rfl)) pa_nil))))) (pss_one (ps_ret (pv 3))) pss_nil)))
      (pss_cons (ps_if (PW.pt (pw_or (pt_cmpR op_eq (pe_callB (klen (K := K) rfl) (by rfl) B.len bt_len (pa_cons (pe_dget (hu_of hr) (pv 2) pe_str (fun _ _ => rfl)) pa_nil)) pe_int (nomark _)) (pw_or1 (pt_cmpR (knin (K := K) rfl) (pe_dget (hu_of hr) (pv 2) pe_str (fun _ _ => rfl)) (pe_tupF (pa_cons pe_str (pa_cons pe_str (pa_cons pe_str pa_nil)))) rfl)))) (pss_one (ps_ret (pe_callB (klen (K := K) rfl) (by rfl) B.len bt_len (pa_cons (pv 0) pa_nil)))) pss_nil)
      (pss_one (ps_ret pe_non))))),
    fn_run1 h (fun po => (z_seq (z_set fun _ => (b_disp (b_pcons (b_up fun _ => a_str) (b_pcons (b_cel (b_upF fun _ => (a_lst a_nil))) (b_pcons (b_up fun _ => a_int) (b_pcons (b_up fun _ => a_var) (b_pcons (b_up fun _ => a_non) b_pnil)))))))
      (z_seq (z_for (vs := [3]) (fun _ => (b_upI fun _ => (i_ran1 (a_cons (a_b1 u_len (a_pk a_var)) a_nil)))) (fun _ => (g_name (by decide)))
      (z_if (fun _ => (b_not (b_tb (b_call2 (b_cons (b_up fun _ => a_var) (b_cons (b_up fun _ => (a_op pst_pk rok_ix (a_pk a_var) a_var)) b_nil)))))) (z_ret fun _ => (b_up fun _ => a_var)) z_next))
      (z_seq (z_if (fun _ => (b_upVT 3 fun _ => (a_or (a_test (a_op pst_rv rok_eq (a_b1 u_len (a_pk (a_dget a_var a_str))) a_int)) (a_test (a_op pst_rv rok_in (a_dget a_var a_str) (a_pk (a_tup (a_cons a_str (a_cons a_str (a_cons a_str a_nil)))))))))) (z_ret fun _ => (b_up fun _ => (a_b1 u_len (a_pk a_var)))) z_next)
      (z_ret fun _ => (b_up fun _ => a_non)))))) (fun ds P a => by obtain ⟨_, _, rfl, _⟩ := a; exact Nat.le_of_ble_eq_true rfl) ?_⟩)
  rintro ds P ⟨ks, ws, rfl, ⟨kok, lw, hw⟩, hp⟩
  refine zseqG fun N hN => ?_
  walk_at "wq"
  intro p _ a ha
  have nap : a ≠ p := fun z => by
    rw [z, Sto.put_s] at ha
    cases ha
  rw [Sto.put_n (Ne.symm nap), Sto.put_s]
  refine ⟨rfl, by decide, ?_⟩
  have eM : mergeD [] [(Sum.inr (Str.ofString "stage"), Dat.str (Str.ofString "start")), (Sum.inr (Str.ofString "cards"), Dat.cell a), (Sum.inr (Str.ofString "count"), Dat.int 0), (Sum.inr (Str.ofString "kinds"), Dat.lst (ks.map kdT)), (Sum.inr (Str.ofString "without"), Dat.non)] = [(Sum.inr (Str.ofString "stage"), Dat.str (Str.ofString "start")), (Sum.inr (Str.ofString "cards"), Dat.cell a), (Sum.inr (Str.ofString "count"), Dat.int 0), (Sum.inr (Str.ofString "kinds"), Dat.lst (ks.map kdT)), (Sum.inr (Str.ofString "without"), Dat.non)] := by
    simp [mergeD, putD, ofS_inj]
  rw [eM]
  clear eM
  obtain ⟨kv0, hkv⟩ : ∃ kv0 : List (Key × Dat), kv0 = [(Sum.inr (Str.ofString "stage"), Dat.str (Str.ofString "start")), (Sum.inr (Str.ofString "cards"), Dat.cell a), (Sum.inr (Str.ofString "count"), Dat.int 0), (Sum.inr (Str.ofString "kinds"), Dat.lst (ks.map kdT)), (Sum.inr (Str.ofString "without"), Dat.non)] := ⟨_, rfl⟩
  rw [← hkv]
  have L : LwSt (((Sto.put (fun x => none) p (some (Ce.dK []))).put a (some (Ce.lst []))).put p (some (.dK kv0))) p a ks (.start [] 0) kv0 := by
    refine ⟨Sto.put_s, ?_, ?_, ?_, ?_, nap, ?_, ?_, trivial⟩
    · subst hkv
      refine ⟨?_, fun k hk => ?_⟩
      · simp [ofS_inj]
      · simp only [List.map_cons, List.map_nil, List.mem_cons, List.mem_nil_iff, or_false] at hk
        rcases hk with rfl | rfl | rfl | rfl | rfl <;> simp [kyL]
    · subst hkv
      simp only [dg_c, ofS_inj, Sum.inr.injEq, String.reduceEq, reduceIte]
      rfl
    · subst hkv
      simp only [dg_c, ofS_inj, Sum.inr.injEq, String.reduceEq, reduceIte]
    · rw [Sto.put_n nap, Sto.put_s]
      rfl
    · subst hkv
      simp only [dg_c, ofS_inj, Sum.inr.injEq, String.reduceEq, reduceIte]
      rfl
    · subst hkv
      simp only [dg_c, ofS_inj, Sum.inr.injEq, String.reduceEq, reduceIte]
  generalize ((Sto.put (fun x => none) p (some (Ce.dK []))).put a (some (Ce.lst []))).put p (some (.dK kv0)) = M at L
  clear hkv ha
  subst hN
  refine zseqG fun N hN => ?_
  walk_at "wq"
  rw [List.length_map]
  refine ⟨by omega, by omega, ?_⟩
  rw [Int.toNat_natCast]
  have hSt : ∃ W : Nat → List Sl → Sto → Prop, ∀ n env M', W n env M' ↔ ∃ (t3 : Sl) (s : Stt) (kvs : List (Key × Dat)), env = [Sl.d (.lst (ws.map .str)), Sl.d (.lst (ks.map kdT)), Sl.d (.cell p), t3] ∧ LwSt M' p a ks s kvs ∧ LOk ks s ∧ Rn ks ws n s := ⟨_, fun _ _ _ => Iff.rfl⟩
  obtain ⟨W, hW⟩ := hSt
  refine forB_ran W ((hW _ _ _).mpr ⟨_, _, _, rfl, L, ⟨⟨Nat.zero_le _, List.nodup_nil, fun _ h => nomatch h⟩, trivial⟩, .zero⟩) ?_ ?_
  · intro i env M' hi w N2 hN2
    obtain ⟨t3, s, kvs, rfl, L, sok, rn⟩ := (hW _ _ _).mp w
    clear w
    have e1 := List.getElem?_eq_getElem (l := ws) (i := i) hi
    have m1 := List.getElem_mem (l := ws) hi
    generalize ws[i] = x at e1 m1
    have hx := hw x m1
    walk_at "wq"
    refine oa_at (Int.zero_add _) e1 ?_
    refine ⟨p, a, ks, s, kvs, x, rfl, L, ⟨kok, sok, hx.1, hx.2⟩, fun e M2 => ?_, fun s' kvs' M2 e L' => ?_⟩
    · walk_at "wq"
      have : wrongO ks ws = some i := Stop.wrong ⟨s, rn, by rw [e1]; exact e⟩
      rw [this] at hp
      rw [Int.zero_add]
      exact hp
    · walk_at "wq"
      exact hN2 _ _ ((hW _ _ _).mpr ⟨_, s', kvs', rfl, L', sok.step kok hx.2 e, rn.succ e1 e⟩)
  · intro env M' w
    obtain ⟨t3, s, kvs, rfl, L, sok, rn⟩ := (hW _ _ _).mp w
    clear w hW W
    show N _ _
    have en : ws[ws.length]? = none := List.getElem?_eq_none (Nat.le_refl _)
    have bad : fnl s = false → P (.int (ws.map Dat.str).length) := fun h => by
      have : wrongO ks ws = some ws.length := Stop.wrong ⟨s, rn, by rw [en]; exact h⟩
      rw [this] at hp
      rw [List.length_map]
      exact hp
    have good : fnl s = true → P .non := fun h => by
      rw [rn.right en h] at hp
      exact hp
    subst hN
    refine zseqG fun N hN => ?_
    walk_at "wq"
    refine rdv L.ha L.cards ?_
    rw [vw_cs L.hc]
    walk_at "wq"
    rw [List.length_map, List.length_map]
    have fin_of : ∀ h : stgS s ∈ (["start", "issuers", "numbers"] : List Str), fnl s = !(stC s).isEmpty := fun h => by
      cases s with
      | start cs k => rfl
      | iss cs c => cases cs <;> rfl
      | nums cs k v lo =>
        have mv := sok.2.1
        cases cs with
        | nil => cases mv
        | cons _ _ => rfl
      | name cs => exact absurd h (show ¬ (("name" : Str) ∈ (["start", "issuers", "numbers"] : List Str)) by decide)
      | kind cs nm => exact absurd h (show ¬ (("kind" : Str) ∈ (["start", "issuers", "numbers"] : List Str)) by decide)
      | frm cs nm kn => exact absurd h (show ¬ (("from" : Str) ∈ (["start", "issuers", "numbers"] : List Str)) by decide)
      | iss0 cs nm kn => exact absurd h (show ¬ (("issuer" : Str) ∈ (["start", "issuers", "numbers"] : List Str)) by decide)
      | card cs k wd wo => exact absurd h (show ¬ (("card" : Str) ∈ (["start", "issuers", "numbers"] : List Str)) by decide)
      | fld cs k wd wo cn => exact absurd h (show ¬ (("field" : Str) ∈ (["start", "issuers", "numbers"] : List Str)) by decide)
      | num cs k wd v => exact absurd h (show ¬ (("number" : Str) ∈ (["start", "issuers", "numbers"] : List Str)) by decide)
    have fin_no : stgS s ∉ (["start", "issuers", "numbers"] : List Str) → fnl s = false := fun h => by
      cases s with
      | start cs k => exact absurd List.mem_cons_self h
      | iss cs c => exact absurd (List.mem_cons_of_mem _ List.mem_cons_self) h
      | nums cs k v lo => exact absurd (List.mem_cons_of_mem _ (List.mem_cons_of_mem _ List.mem_cons_self)) h
      | _ => rfl
    refine twoD (fun e0 => ?_) (fun e0 => ?_)
    · have e0 : ((stC s).length : Int) = 0 := e0
      refine bad ?_
      have en : stC s = [] := List.length_eq_zero_iff.mp (by omega)
      by_cases h : stgS s ∈ (["start", "issuers", "numbers"] : List Str)
      · rw [fin_of h, en]
        rfl
      · exact fin_no h
    · have e0 : ¬ ((stC s).length : Int) = 0 := e0
      refine rdv L.ha L.stage ?_
      rw [vw_s]
      refine (show kIn true (.str (stgS s)) (.tup ((["start", "issuers", "numbers"] : List Str).map .str)) _ from kIn_nsT ?_)
      walk_at "wq"
      refine twoN (fun h => bad (fin_no h)) (fun h => ?_)
      subst hN
      walk_at "wq"
      refine good ?_
      rw [fin_of h]
      cases e : stC s with
      | nil => rw [e] at e0; exact absurd rfl e0
      | cons _ _ => rfl
end
theorem txt_sgn : (List.range 100).all (fun k => (TL.tl (toString ((k : Nat) : Int) : Str)).all fun c => decide (c ≠ 32)) = true := by decide +kernel
theorem kw_sgn : kwS.all (fun s => (TL.tl s).all fun c => decide (c ≠ 32)) = true := by decide +kernel
theorem txt_l : (List.range 100).all (fun k => decide ((toString ((k : Nat) : Int) : Str).length ≤ 100)) = true := by decide +kernel
def WdOk (x : Str) : Prop := x.length ≤ 100 ∧ ¬ 32 ∈ TL.tl x
theorem wd_nm {x : Str} (h : isNm x = true) : WdOk x := ⟨by have := isNm_len h; omega, fun m => (nm_sgn h 32 m).2 rfl⟩
theorem wd_kw {x : Str} (h : x ∈ kwS) : WdOk x := by
  refine ⟨by have : kwS.all (fun s => decide (s.length ≤ 100)) = true := by decide +kernel
             exact of_decide_eq_true (List.all_eq_true.mp this x h), fun m => ?_⟩
  have := List.all_eq_true.mp kw_sgn x h
  exact of_decide_eq_true (List.all_eq_true.mp this 32 m) rfl
theorem wd_txt {k : Int} (h0 : 0 ≤ k) (h1 : k < 100) : WdOk (toString k) := by
  obtain ⟨n, rfl⟩ := Int.eq_ofNat_of_zero_le h0
  refine ⟨of_decide_eq_true (List.all_eq_true.mp txt_l n (List.mem_range.mpr (by omega))), fun m => ?_⟩
  have := List.all_eq_true.mp txt_sgn n (List.mem_range.mpr (by omega))
  exact of_decide_eq_true (List.all_eq_true.mp this 32 m) rfl
theorem small_len {ns : List Int} {m : Int} (hm : m ≤ 16) (rg : ∀ n ∈ ns, 0 ≤ n ∧ n < m) (pw : ns.Pairwise (· < ·)) : ns.length ≤ 16 := by
  have := pigeon (ys := ns) (xs := (List.range 16).map fun i : Nat => (i : Int)) (pw.imp fun h => by omega) fun n hn => List.mem_map.mpr ⟨n.toNat, List.mem_range.mpr (by have := rg n hn; omega), by have := rg n hn; omega⟩
  rw [List.length_map, List.length_range] at this
  exact this
structure PolB (ks : List Kd) (cs : List Cd) (co : List Cnd) : Prop where
  fit : PolFit ks cs co
  cdok : ∀ c ∈ cs, CdOk c
  cnstr : ∀ x ∈ co, CnStr x
  cnsm : ∀ x ∈ co, CnSm x
  lw : (polW cs co).length ≤ 300
  hw : ∀ x ∈ polW cs co, WdOk x
  ne : polW cs co ≠ []
theorem cd_ok {ks : List Kd} {c : Cd} (kok : KsA ks) (h : CdA ks c) : CdOk c := by
  obtain ⟨k, mk, e⟩ := List.mem_map.mp h.kn
  exact ⟨strOk_nm h.nm, strOk_nm (by rw [← e]; exact kok.nm k mk), fun s hs => strOk_nm (h.al s hs)⟩
theorem cn_all {vs : List Vl} (vok : ∀ v ∈ vs, 1 ≤ v.sz ∧ v.sz ≤ 16 ∧ isNm v.cn = true ∧ isNm v.fn = true) {x : Cnd} (h : CnFit vs x) : CnStr x ∧ CnSm x ∧ (cndW x).length ≤ 20 ∧ ∀ y ∈ cndW x, WdOk y := by
  have hd : ∀ y ∈ cndW x, y = wdC x ∨ y = (cnC x).1 ∨ y = (cnC x).2 ∨ y ∈ rsC x := fun y hy => by
    rcases List.mem_cons.mp hy with h | hy
    · exact .inl h
    · rcases List.mem_cons.mp hy with h | hy
      · exact .inr (.inl h)
      · rcases List.mem_cons.mp hy with h | hy
        · exact .inr (.inr (.inl h))
        · exact .inr (.inr (.inr hy))
  have hw := wd_kw (cw_kw (wdC_cw x)).1
  cases h with
  | tell v h =>
    have a := vok v h
    refine ⟨⟨strOk_nm a.2.2.1, strOk_nm a.2.2.2⟩, trivial, Nat.le_of_ble_eq_true rfl, fun y hy => ?_⟩
    rcases hd y hy with h | h | h | h
    · rw [h]; exact hw
    · rw [h]; exact wd_nm a.2.2.1
    · rw [h]; exact wd_nm a.2.2.2
    · cases h
  | equal v h n n0 n1 =>
    have a := vok v h
    refine ⟨⟨strOk_nm a.2.2.1, strOk_nm a.2.2.2⟩, by show n.natAbs < 1000000; omega, Nat.le_of_ble_eq_true rfl, fun y hy => ?_⟩
    rcases hd y hy with h | h | h | h
    · rw [h]; exact hw
    · rw [h]; exact wd_nm a.2.2.1
    · rw [h]; exact wd_nm a.2.2.2
    · rw [List.mem_singleton.mp h]; exact wd_txt n0 (by omega)
  | least v h n n0 n1 =>
    have a := vok v h
    refine ⟨⟨strOk_nm a.2.2.1, strOk_nm a.2.2.2⟩, by show n.natAbs < 1000000; omega, Nat.le_of_ble_eq_true rfl, fun y hy => ?_⟩
    rcases hd y hy with h | h | h | h
    · rw [h]; exact hw
    · rw [h]; exact wd_nm a.2.2.1
    · rw [h]; exact wd_nm a.2.2.2
    · rw [List.mem_singleton.mp h]; exact wd_txt n0 (by omega)
  | among v h ns ne rg pw =>
    have a := vok v h
    have ln := small_len a.2.1 rg pw
    refine ⟨⟨strOk_nm a.2.2.1, strOk_nm a.2.2.2⟩, ⟨by omega, fun n hn => by have := rg n hn; omega⟩, by show (ns.map _).length + 3 ≤ 20; rw [List.length_map]; omega, fun y hy => ?_⟩
    rcases hd y hy with h | h | h | h
    · rw [h]; exact hw
    · rw [h]; exact wd_nm a.2.2.1
    · rw [h]; exact wd_nm a.2.2.2
    · obtain ⟨n, hn, rfl⟩ := List.mem_map.mp h
      have := rg n hn
      exact wd_txt this.1 (by omega)
  | same v u h hu ne =>
    have a := vok v h
    have b := vok u hu
    refine ⟨⟨strOk_nm a.2.2.1, strOk_nm a.2.2.2, strOk_nm b.2.2.1, strOk_nm b.2.2.2⟩, trivial, Nat.le_of_ble_eq_true rfl, fun y hy => ?_⟩
    rcases hd y hy with h | h | h | h
    · rw [h]; exact hw
    · rw [h]; exact wd_nm a.2.2.1
    · rw [h]; exact wd_nm a.2.2.2
    · rcases List.mem_cons.mp h with rfl | h
      · exact wd_nm b.2.2.1
      · rw [List.mem_singleton.mp h]; exact wd_nm b.2.2.2
theorem PolA.b {ks : List Kd} {cs : List Cd} {co : List Cnd} (kok : KsA ks) (h : PolA ks cs co) : PolB ks cs co := by
  obtain ⟨vok, val⟩ := vals_ok kok h.l3 h.nd h.cd
  have ca := fun x hx => cn_all val (h.co x hx)
  have cw : ∀ c ∈ cs, (cardW c).length ≤ 7 ∧ ∀ y ∈ cardW c, WdOk y := fun c hc => by
    have cd := h.cd c hc
    obtain ⟨k, mk, e⟩ := List.mem_map.mp cd.kn
    refine ⟨by show c.is.length + 4 ≤ 7; have := cd.l3; omega, fun y hy => ?_⟩
    rcases List.mem_cons.mp hy with rfl | hy
    · exact wd_kw (by decide)
    rcases List.mem_cons.mp hy with rfl | hy
    · exact wd_nm cd.nm
    rcases List.mem_cons.mp hy with rfl | hy
    · rw [← e]; exact wd_nm (kok.nm k mk)
    rcases List.mem_cons.mp hy with rfl | hy
    · exact wd_kw (by decide)
    · exact wd_nm (cd.al y hy)
  have l3 := h.l3
  have l6 := h.l6
  refine ⟨⟨by have := kok.l8; omega, fun k hk => by have := (kok.f4 k hk).1; omega, fun z => by have := h.l1; rw [z] at this; exact absurd this (by decide), h.l3, fun dn c td e => ?_, vok, h.l6, h.co⟩, fun c hc => cd_ok kok (h.cd c hc), fun x hx => (ca x hx).1, fun x hx => (ca x hx).2.1, ?_, fun y hy => ?_, ?_⟩
  · have cd := h.cd c (by rw [e]; exact List.mem_append.mpr (.inr List.mem_cons_self))
    refine ⟨cd.nm, fun m => ?_, cd.kn, fun z => by have := cd.l1; rw [z] at this; exact absurd this (by decide), cd.l3, cd.al, cd.nd⟩
    have := h.nd
    rw [e, List.map_append, List.nodup_append] at this
    exact this.2.2 c.nm m c.nm List.mem_cons_self rfl
  · unfold polW
    rw [List.length_append]
    have a := fm_len (l := cs) (f := cardW) (m := 7) fun c hc => (cw c hc).1
    have b := fm_len (l := co) (f := cndW) (m := 20) fun x hx => (ca x hx).2.2.1
    omega
  · rcases List.mem_append.mp hy with hy | hy
    · obtain ⟨c, hc, hy⟩ := List.mem_flatMap.mp hy
      exact (cw c hc).2 y hy
    · obtain ⟨x, hx, hy⟩ := List.mem_flatMap.mp hy
      exact (ca x hx).2.2.2 y hy
  · intro z
    have := h.l1
    cases cs with
    | nil => exact absurd this (by decide)
    | cons c cs => cases z
theorem spl_jn {ws : List Str} (ne : ws ≠ []) (h : ∀ x ∈ ws, WdOk x) : Txt.split (Txt.join " " ws) " " = ws := TL.split_join (s := 32) (S := []) (by rfl) (by decide +kernel) ne fun p hp => (h p hp).2
abbrev s__law_menu : Stmt := top 50
theorem sc__law_menu : FnScope ["pool", "kinds", "words", "name", "fields", "field", "size"] ["pool", "kinds"] (defScope s__law_menu) := ⟨rfl, rfl, rfl, by decide +kernel, rfl, by decide +kernel, by decide +kernel⟩
abbrev s__law_changed : Stmt := top 51
theorem sc__law_changed : FnScope ["pool", "words", "kinds", "k", "way", "place", "other"] ["pool", "words", "kinds"] (defScope s__law_changed) := ⟨rfl, rfl, rfl, by decide +kernel, rfl, by decide +kernel, by decide +kernel⟩
abbrev s__law_walked : Stmt := top 52
theorem sc__law_walked : FnScope ["pool", "kinds", "words", "k", "word", "turn"] ["pool", "kinds"] (defScope s__law_walked) := ⟨rfl, rfl, rfl, by decide +kernel, rfl, by decide +kernel, by decide +kernel⟩
def WdS (x : Str) : Prop := WdOk x ∧ PyData.strOk x = true
def mnA : List Str := ["card", "from", "tell", "equal", "least", "among", "same", "a", "b", "me", "town", "state", "0", "1", "7", "15"]
def mnB : List Str := ["16", "01", "", "?", "abcdefghi", "A", "a1", "a?", "b-", "aB", "+1", "-0", "1a", "00", "100", "1?"]
theorem mnA_ok : mnA.all (fun x => decide (x.length ≤ 100) && (!decide (32 ∈ TL.tl x) && PyData.strOk x)) = true := by decide +kernel
theorem mnB_ok : mnB.all (fun x => decide (x.length ≤ 100) && (!decide (32 ∈ TL.tl x) && PyData.strOk x)) = true := by decide +kernel
theorem wds_of {l : List Str} (h : l.all (fun x => decide (x.length ≤ 100) && (!decide (32 ∈ TL.tl x) && PyData.strOk x)) = true) : ∀ x ∈ l, WdS x := fun x hx => by
  have := List.all_eq_true.mp h x hx
  rw [Bool.and_eq_true, Bool.and_eq_true] at this
  exact ⟨⟨of_decide_eq_true this.1, fun m => by have h2 := this.2.1; rw [decide_eq_true m] at h2; cases h2⟩, this.2.2⟩
theorem wds_nm {x : Str} (h : isNm x = true) : WdS x := ⟨wd_nm h, strOk_nm h⟩
theorem cS {ws : List Str} {n : Nat} : cutD (ws.map Dat.str) none (some (n : Int)) = (ws.take n).map .str := cut_to.trans List.map_take.symm
theorem cDr {ws : List Str} {n : Nat} : cutD (ws.map Dat.str) (some (n : Int)) none = (ws.drop n).map .str := cut_from.trans List.map_drop.symm
theorem cM {ws : List Str} {a b : Nat} (h : a ≤ b) : cutD (ws.map Dat.str) (some (a : Int)) (some (b : Int)) = ((ws.drop a).take (b - a)).map .str := by
  rw [cut_nat h, List.map_take, List.map_drop]
section
variable {P : Program} {w : World} {K : PySem.W.Frag} {mg : Str → Option Value} {base : Heap} {ca : Nat → Addr} {gKW gCW : Addr}
def aspLMn : ASp := fun ds P => ∃ ks : List Kd, ds = [.pool, .lst (ks.map kdT)] ∧ KsA ks ∧ ∀ x, WdS x → P (.str x)
theorem ok_law_menu {f : Addr} {fd : FuncData} (F : Fun K "_law_menu" "_law_menu" s__law_menu f fd) (B : Blt mg) (C__law_draw : C8.Cal P w K mg base 1 "_law_draw" (toSp K ca aspDraw) []) : FnOk P w K mg base CX0 2 f fd ["pool", "kinds"] (toSp K ca aspLMn) := by
  refine F.ok sc__law_menu (fun vs H Q E h => sp_len (n := 2) (fun ds P a => by obtain ⟨_, rfl, _⟩ := a; rfl) h) (fun cdv A outer s H vs Q E hr h => ⟨_, (pss_cons (ps_set (i := 2) sc__law_menu.nd rfl (.inl rfl) (pe_lst (pa_cons pe_str (pa_cons pe_str (pa_cons pe_str (pa_cons pe_str (pa_cons pe_str (pa_cons pe_str (pa_cons pe_str (pa_cons pe_str (pa_cons pe_str (pa_cons pe_str (pa_cons pe_str (pa_cons pe_str (pa_cons pe_str (pa_cons pe_str (pa_cons pe_str (pa_cons pe_str pa_nil))))))))))))))))))
      (pss_cons (ps_set (i := 2) sc__law_menu.nd rfl (.inl rfl) (pe_op op_cat (pe_op op_cat (pv 2) (pe_lst (pa_cons pe_str (pa_cons pe_str (pa_cons pe_str (pa_cons pe_str (pa_cons pe_str (pa_cons pe_str (pa_cons pe_str (pa_cons pe_str (pa_cons pe_str (pa_cons pe_str (pa_cons pe_str (pa_cons pe_str (pa_cons pe_str (pa_cons pe_str (pa_cons pe_str (pa_cons pe_str pa_nil)))))))))))))))))) (pe_op op_rep (pe_lc (own := [("name", 3), ("fields", 4)]) (tt := tYes) rfl sc__law_menu.nd (kpil (K := K) rfl (pv 1)) (blkOk_by (N := ["pool", "kinds", "words", "name", "fields", "field", "size"]) (sc := defScope s__law_menu) (by decide +kernel))
        (fun _ _ _ _ _ => (kgtup (K := K) (n := 2) rfl rfl (pgs_cons (pg_name (i := 3) sc__law_menu.nd rfl (.inl rfl)) (pgs_cons (pg_name (i := 4) sc__law_menu.nd rfl (.inl rfl)) pgs_nil)))) (fun _ _ _ _ _ => pts_nil)
        (fun _ _ _ _ _ => (pv 3))) pe_int)))
      (pss_cons (ps_for PassesOwn.never rfl (kpil (K := K) rfl (pv 1)) (kgtup (K := K) (n := 2) rfl rfl (pgs_cons (pg_name (i := 3) sc__law_menu.nd rfl (.inl rfl)) (pgs_cons (pg_name (i := 4) sc__law_menu.nd rfl (.inl rfl)) pgs_nil)))
      (pss_one (ps_set (i := 2) sc__law_menu.nd rfl (.inl rfl) (pe_op op_cat (pv 2) (pe_lc (own := [("field", 5), ("size", 6)]) (tt := tYes) rfl sc__law_menu.nd (kpit (K := K) rfl (pv 4)) (blkOk_by (N := ["pool", "kinds", "words", "name", "fields", "field", "size"]) (sc := defScope s__law_menu) (by decide +kernel))
        (fun _ _ _ _ _ => (kgtup (K := K) (n := 2) rfl rfl (pgs_cons (pg_name (i := 5) sc__law_menu.nd rfl (.inl rfl)) (pgs_cons (pg_name (i := 6) sc__law_menu.nd rfl (.inl rfl)) pgs_nil)))) (fun _ _ _ _ _ => pts_nil)
        (fun _ _ _ _ _ => (pv 5)))))))
      (pss_one (ps_ret (pe_ix (kixs (K := K) rfl) (pv 2) (C8.pe_c C__law_draw hr (by omega) rfl (pa_cons (pv 0) (pa_cons (pe_callB (klen (K := K) rfl) (by rfl) B.len bt_len (pa_cons (pv 2) pa_nil)) pa_nil))) (fun _ _ => rfl))))))),
    fn_run h (fun po => (s_seq (s_set fun _ => (a_fz (a_lst (a_cons a_str (a_cons a_str (a_cons a_str (a_cons a_str (a_cons a_str (a_cons a_str (a_cons a_str (a_cons a_str (a_cons a_str (a_cons a_str (a_cons a_str (a_cons a_str (a_cons a_str (a_cons a_str (a_cons a_str (a_cons a_str a_nil)))))))))))))))))))
      (s_seq (s_set fun _ => (a_fz (a_opF pst_pk rok_catL (a_pk (a_fz (a_opF pst_pk rok_catL (a_pk a_var) (a_pk (a_fz (a_lst (a_cons a_str (a_cons a_str (a_cons a_str (a_cons a_str (a_cons a_str (a_cons a_str (a_cons a_str (a_cons a_str (a_cons a_str (a_cons a_str (a_cons a_str (a_cons a_str (a_cons a_str (a_cons a_str (a_cons a_str (a_cons a_str a_nil)))))))))))))))))))))) (a_pk (a_fz (a_opF pst_pk rok_repL (a_pk (a_fz (a_lc (vs := [3, 4]) (i_list a_var) (g_tup (g_cons (g_name (by decide)) (g_cons (g_name (by decide)) g_nil tot_name) tot_name)) a_yes a_var))) a_int))))))
      (s_seq (s_for (vs := [3, 4]) (fun _ => (i_list a_var)) (fun _ => (g_tup (g_cons (g_name (by decide)) (g_cons (g_name (by decide)) g_nil tot_name) tot_name)))
      (s_set fun _ => (a_fz (a_opF pst_pk rok_catL (a_pk a_var) (a_pk (a_fz (a_lc (vs := [5, 6]) (i_tup a_var) (g_tup (g_cons (g_name (by decide)) (g_cons (g_name (by decide)) g_nil tot_name) tot_name)) a_yes a_var)))))))
      (s_ret fun _ => (a_op pst_pk rok_ix (a_pk a_var) (a_call (a_cons a_var (a_cons (a_b1 u_len (a_pk a_var)) a_nil))))))))) (fun ds P a => by obtain ⟨_, rfl, _⟩ := a; exact Nat.le_of_ble_eq_true rfl) ?_⟩)
  rintro ds P ⟨ks, rfl, kok, hp⟩
  have l8 := kok.l8
  refine seqG fun N hN => ?_
  walk_at "dw"
  subst hN
  refine seqG fun N hN => ?_
  walk_at "dw"
  refine ⟨by decide, by rw [List.length_map]; omega, ?_⟩
  refine lcA_mapL (g := fun k : Kd => Dat.str k.1) (fun k hk Q hQ => ?_) ?_
  · unfold kdT
    walk_at "dw"
    exact hQ
  refine ⟨by decide, by decide, by rw [List.length_map, show (3 : Int).toNat = 3 from rfl]; omega, ?_⟩
  obtain ⟨l3, el3⟩ : ∃ l3 : List Str, l3 = (List.replicate (3 : Int).toNat (ks.map (·.1))).flatten := ⟨_, rfl⟩
  have e3 : (List.replicate (3 : Int).toNat (ks.map fun k : Kd => Dat.str k.1)).flatten = l3.map .str := by
    rw [el3, List.map_flatten, List.map_replicate, List.map_map]
    rfl
  have m3 : ∀ x ∈ l3, WdS x := fun x hx => by
    rw [el3] at hx
    obtain ⟨l, hl, hx⟩ := List.mem_flatten.mp hx
    rw [List.eq_of_mem_replicate hl] at hx
    obtain ⟨k, hk, rfl⟩ := List.mem_map.mp hx
    exact wds_nm (kok.nm k hk)
  have ll3 : l3.length ≤ 24 := by
    have e : l3.length = 3 * ks.length := by
      rw [el3, List.length_flatten, List.map_replicate, List.sum_replicate_nat, List.length_map]
      rfl
    omega
  rw [e3]
  clear e3 el3
  refine ⟨by rw [List.length_map]; omega, ?_⟩
  refine (show N [Sl.d .pool, Sl.d (.lst (ks.map kdT)), Sl.d (.lst ((mnA ++ mnB ++ l3).map .str)), Sl.u, Sl.u, Sl.u, Sl.u] from ?_)
  have mA : ∀ x ∈ mnA ++ mnB ++ l3, WdS x := fun x hx => by
    rcases List.mem_append.mp hx with hx | hx
    · rcases List.mem_append.mp hx with hx | hx
      · exact wds_of mnA_ok x hx
      · exact wds_of mnB_ok x hx
    · exact m3 x hx
  have lA : 1 ≤ (mnA ++ mnB ++ l3).length ∧ (mnA ++ mnB ++ l3).length ≤ 56 := by
    rw [List.length_append, List.length_append, show mnA.length = 16 from rfl, show mnB.length = 16 from rfl]
    omega
  generalize mnA ++ mnB ++ l3 = wA at mA lA ⊢
  subst hN
  refine seqG fun N hN => ?_
  walk_at "dw"
  have hSt : ∃ W : List Kd → List Sl → Prop, ∀ xs env, W xs env ↔ ∃ (wB : List Str) (t3 t4 t5 t6 : Sl), env = [Sl.d .pool, Sl.d (.lst (ks.map kdT)), Sl.d (.lst (wB.map .str)), t3, t4, t5, t6] ∧ (∀ x ∈ wB, WdS x) ∧ 1 ≤ wB.length ∧ wB.length + 4 * xs.length ≤ 100 ∧ ∀ x ∈ xs, x ∈ ks := ⟨_, fun _ _ => Iff.rfl⟩
  obtain ⟨W, hW⟩ := hSt
  refine forA_suf (f := kdT) W (fun k xs env w N2 hN2 => ?_) (fun env w => ?_) _ _ ((hW _ _).mpr ⟨wA, _, _, _, _, rfl, mA, lA.1, by omega, fun _ h => h⟩)
  · obtain ⟨wB, t3, t4, t5, t6, rfl, mB, b1, b2, b3⟩ := (hW _ _).mp w
    have mk := b3 k List.mem_cons_self
    have f4 := kok.f4 k mk
    rw [List.length_cons] at b2
    rw [show kdT k = .tup [.str k.1, .tup (k.2.map fmD)] from rfl]
    walk_at "dw"
    refine ⟨by rw [List.length_map]; omega, ?_⟩
    refine lcA_mapL (g := fun f : Fld => Dat.str f.1) (fun f hf Q hQ => ?_) ?_
    · unfold fmD
      walk_at "dw"
      exact hQ
    refine ⟨by rw [List.length_map, List.length_map]; omega, ?_⟩
    rw [show wB.map Dat.str ++ (k.2.map fun f : Fld => Dat.str f.1) = (wB ++ k.2.map (·.1)).map .str by rw [List.map_append, List.map_map]; rfl]
    refine hN2 _ ((hW _ _).mpr ⟨wB ++ k.2.map (·.1), _, _, _, _, rfl, fun x hx => ?_, by rw [List.length_append]; omega, by rw [List.length_append, List.length_map]; omega, fun x hx => b3 x (List.mem_cons_of_mem _ hx)⟩)
    rcases List.mem_append.mp hx with hx | hx
    · exact mB x hx
    · obtain ⟨f, hf, rfl⟩ := List.mem_map.mp hx
      exact wds_nm (f4.2.2 f hf).1
  · obtain ⟨wB, t3, t4, t5, t6, rfl, mB, b1, b2, b3⟩ := (hW _ _).mp w
    show N _
    subst hN
    walk_at "dw"
    rw [List.length_map]
    refine draw (by omega) (by rw [List.length_nil] at b2; omega) fun v v0 v1 => ?_
    exact oa_any v0 v1 fun x hx => hp x (mB x hx)
def aspLCh : ASp := fun ds P => ∃ (ks : List Kd) (ws : List Str), ds = [.pool, .lst (ws.map .str), .lst (ks.map kdT)] ∧ (KsA ks ∧ ws.length ≤ 400 ∧ ∀ x ∈ ws, WdS x) ∧ ∀ ws' : List Str, ws'.length ≤ 450 → (∀ x ∈ ws', WdS x) → P (.lst (ws'.map .str))
theorem ok_law_changed {f : Addr} {fd : FuncData} (F : Fun K "_law_changed" "_law_changed" s__law_changed f fd) (B : Blt mg) (C__law_draw : C8.Cal P w K mg base 1 "_law_draw" (toSp K ca aspDraw) []) (C__law_menu : C8.Cal P w K mg base 2 "_law_menu" (toSp K ca aspLMn) []) : FnOk P w K mg base CX0 3 f fd ["pool", "words", "kinds"] (toSp K ca aspLCh) := by
  refine F.ok sc__law_changed (fun vs H Q E h => sp_len (n := 3) (fun ds P a => by obtain ⟨_, _, rfl, _⟩ := a; rfl) h) (fun cdv A outer s H vs Q E hr h => ⟨_, (pss_cons (ps_for PassesOwn.never rfl (pi_range1 rfl B.range (pa_cons (C8.pe_c C__law_draw hr (by omega) rfl (pa_cons (pv 0) (pa_cons pe_int pa_nil))) pa_nil)) (pg_name (i := 3) sc__law_changed.nd rfl (.inl rfl))
      (pss_cons (ps_set (i := 4) sc__law_changed.nd rfl (.inl rfl) (C8.pe_c C__law_draw hr (by omega) rfl (pa_cons (pv 0) (pa_cons pe_int pa_nil))))
      (pss_cons (ps_set (i := 5) sc__law_changed.nd rfl (.inl rfl) (C8.pe_c C__law_draw hr (by omega) rfl (pa_cons (pv 0) (pa_cons (pe_op op_add (pe_callB (klen (K := K) rfl) (by rfl) B.len bt_len (pa_cons (pv 1) pa_nil)) pe_int) pa_nil))))
      (pss_cons (ps_set (i := 6) sc__law_changed.nd rfl (.inl rfl) (C8.pe_c C__law_draw hr (by omega) rfl (pa_cons (pv 0) (pa_cons (pe_op op_add (pe_callB (klen (K := K) rfl) (by rfl) B.len bt_len (pa_cons (pv 1) pa_nil)) pe_int) pa_nil))))
      (pss_one (ps_if (pt_cmpR op_eq (pv 4) pe_int (nomark _)) (pss_one (ps_set (i := 1) sc__law_changed.nd rfl (.inl rfl) (pe_op op_cat (pe_slice (ksll (K := K) rfl) (pv 1) po_none (po_some (pv 5))) (pe_slice (ksll (K := K) rfl) (pv 1) (po_some (pe_op op_add (pv 5) pe_int)) po_none)))) (pss_one (ps_if (pt_cmpR op_eq (pv 4) pe_int (nomark _)) (pss_one (ps_set (i := 1) sc__law_changed.nd rfl (.inl rfl) (pe_op op_cat (pe_op op_cat (pe_slice (ksll (K := K) rfl) (pv 1) po_none (po_some (pv 5))) (pe_lst (pa_cons (C8.pe_c C__law_menu hr (by omega) rfl (pa_cons (pv 0) (pa_cons (pv 2) pa_nil))) pa_nil))) (pe_slice (ksll (K := K) rfl) (pv 1) (po_some (pv 5)) po_none)))) (pss_one (ps_if (pt_cmpR op_eq (pv 4) pe_int (nomark _)) (pss_one (ps_set (i := 1) sc__law_changed.nd rfl (.inl rfl) (pe_op op_cat (pe_op op_cat (pe_slice (ksll (K := K) rfl) (pv 1) po_none (po_some (pv 5))) (pe_lst (pa_cons (C8.pe_c C__law_menu hr (by omega) rfl (pa_cons (pv 0) (pa_cons (pv 2) pa_nil))) pa_nil))) (pe_slice (ksll (K := K) rfl) (pv 1) (po_some (pe_op op_add (pv 5) pe_int)) po_none)))) (pss_one (ps_if (pt_cmpR op_eq (pv 4) pe_int (nomark _)) (pss_one (ps_set (i := 1) sc__law_changed.nd rfl (.inl rfl) (pe_op op_cat (pe_op op_cat (pe_slice (ksll (K := K) rfl) (pv 1) po_none (po_some (pv 5))) (pe_slice (ksll (K := K) rfl) (pv 1) (po_some (pv 6)) (po_some (pe_op op_add (pv 6) pe_int)))) (pe_slice (ksll (K := K) rfl) (pv 1) (po_some (pe_op op_add (pv 5) pe_int)) po_none)))) (pss_one (ps_if (pt_cmpR op_eq (pv 4) pe_int (nomark _)) (pss_one (ps_set (i := 1) sc__law_changed.nd rfl (.inl rfl) (pe_op op_cat (pe_op op_cat (pe_slice (ksll (K := K) rfl) (pv 1) po_none (po_some (pv 5))) (pe_slice (ksll (K := K) rfl) (pv 1) (po_some (pv 6)) (po_some (pe_op op_add (pv 6) pe_int)))) (pe_slice (ksll (K := K) rfl) (pv 1) (po_some (pv 5)) po_none)))) (pss_one (ps_set (i := 1) sc__law_changed.nd rfl (.inl rfl) (pe_op op_cat (pe_op op_cat (pe_op op_cat (pe_slice (ksll (K := K) rfl) (pv 1) po_none (po_some (pv 5))) (pe_slice (ksll (K := K) rfl) (pv 1) (po_some (pe_op op_add (pv 5) pe_int)) (po_some (pe_op op_add (pv 5) pe_int)))) (pe_slice (ksll (K := K) rfl) (pv 1) (po_some (pv 5)) (po_some (pe_op op_add (pv 5) pe_int)))) (pe_slice (ksll (K := K) rfl) (pv 1) (po_some (pe_op op_add (pv 5) pe_int)) po_none))))))))))))))))))
      (pss_one (ps_ret (pv 1)))),
    fn_run h (fun po => (s_seq (s_for (vs := [3]) (fun _ => (i_ran1 (a_cons (a_call (a_cons a_var (a_cons a_int a_nil))) a_nil))) (fun _ => (g_name (by decide)))
      (s_seq (s_set fun _ => (a_call (a_cons a_var (a_cons a_int a_nil))))
      (s_seq (s_set fun _ => (a_call (a_cons a_var (a_cons (a_op pst_rv rok_I0 (a_b1 u_len (a_pk a_var)) a_int) a_nil))))
      (s_seq (s_set fun _ => (a_call (a_cons a_var (a_cons (a_op pst_rv rok_I0 (a_b1 u_len (a_pk a_var)) a_int) a_nil))))
      (s_if (fun _ => (a_test (a_op pst_rv rok_eq a_var a_int))) (s_set fun _ => (a_fz (a_opF pst_pk rok_catL (a_pk (a_fz (a_slL (a_pk a_var) ao_none (ao_some a_var)))) (a_pk (a_fz (a_slL (a_pk a_var) (ao_some (a_op pst_rv rok_I0 a_var a_int)) ao_none)))))) (s_if (fun _ => (a_test (a_op pst_rv rok_eq a_var a_int))) (s_set fun _ => (a_fz (a_opF pst_pk rok_catL (a_pk (a_fz (a_opF pst_pk rok_catL (a_pk (a_fz (a_slL (a_pk a_var) ao_none (ao_some a_var)))) (a_pk (a_fz (a_lst (a_cons (a_call (a_cons a_var (a_cons a_var a_nil))) a_nil))))))) (a_pk (a_fz (a_slL (a_pk a_var) (ao_some a_var) ao_none)))))) (s_if (fun _ => (a_test (a_op pst_rv rok_eq a_var a_int))) (s_set fun _ => (a_fz (a_opF pst_pk rok_catL (a_pk (a_fz (a_opF pst_pk rok_catL (a_pk (a_fz (a_slL (a_pk a_var) ao_none (ao_some a_var)))) (a_pk (a_fz (a_lst (a_cons (a_call (a_cons a_var (a_cons a_var a_nil))) a_nil))))))) (a_pk (a_fz (a_slL (a_pk a_var) (ao_some (a_op pst_rv rok_I0 a_var a_int)) ao_none)))))) (s_if (fun _ => (a_test (a_op pst_rv rok_eq a_var a_int))) (s_set fun _ => (a_fz (a_opF pst_pk rok_catL (a_pk (a_fz (a_opF pst_pk rok_catL (a_pk (a_fz (a_slL (a_pk a_var) ao_none (ao_some a_var)))) (a_pk (a_fz (a_slL (a_pk a_var) (ao_some a_var) (ao_some (a_op pst_rv rok_I0 a_var a_int)))))))) (a_pk (a_fz (a_slL (a_pk a_var) (ao_some (a_op pst_rv rok_I0 a_var a_int)) ao_none)))))) (s_if (fun _ => (a_test (a_op pst_rv rok_eq a_var a_int))) (s_set fun _ => (a_fz (a_opF pst_pk rok_catL (a_pk (a_fz (a_opF pst_pk rok_catL (a_pk (a_fz (a_slL (a_pk a_var) ao_none (ao_some a_var)))) (a_pk (a_fz (a_slL (a_pk a_var) (ao_some a_var) (ao_some (a_op pst_rv rok_I0 a_var a_int)))))))) (a_pk (a_fz (a_slL (a_pk a_var) (ao_some a_var) ao_none)))))) (s_set fun _ => (a_fz (a_opF pst_pk rok_catL (a_pk (a_fz (a_opF pst_pk rok_catL (a_pk (a_fz (a_opF pst_pk rok_catL (a_pk (a_fz (a_slL (a_pk a_var) ao_none (ao_some a_var)))) (a_pk (a_fz (a_slL (a_pk a_var) (ao_some (a_op pst_rv rok_I0 a_var a_int)) (ao_some (a_op pst_rv rok_I0 a_var a_int)))))))) (a_pk (a_fz (a_slL (a_pk a_var) (ao_some a_var) (ao_some (a_op pst_rv rok_I0 a_var a_int)))))))) (a_pk (a_fz (a_slL (a_pk a_var) (ao_some (a_op pst_rv rok_I0 a_var a_int)) ao_none)))))))))))))))
      (s_ret fun _ => a_var))) (fun ds P a => by obtain ⟨_, _, rfl, _⟩ := a; exact Nat.le_of_ble_eq_true rfl) ?_⟩)
  rintro ds P ⟨ks, ws, rfl, ⟨kok, lw, hw⟩, hp⟩
  refine seqG fun N hN => ?_
  walk_at "dw"
  refine draw (by omega) (by omega) fun n n0 n1 => ?_
  refine ⟨by omega, by omega, ?_⟩
  have hSt : ∃ W : Nat → List Sl → Prop, ∀ i env, W i env ↔ ∃ (ws : List Str) (t3 t4 t5 t6 : Sl), env = [Sl.d .pool, Sl.d (.lst (ws.map .str)), Sl.d (.lst (ks.map kdT)), t3, t4, t5, t6] ∧ ws.length ≤ 400 + 3 * i ∧ ∀ x ∈ ws, WdS x := ⟨_, fun _ _ => Iff.rfl⟩
  obtain ⟨W, hW⟩ := hSt
  refine forA_ran W ((hW _ _).mpr ⟨ws, _, _, _, _, rfl, lw, hw⟩) ?_ ?_
  · clear hw lw hp ws
    intro i env hi w N2 hN2
    obtain ⟨ws, t3, t4, t5, t6, rfl, lw, hw⟩ := (hW _ _).mp w
    clear w
    have hi : i < 5 := by omega
    refine seqG fun N3 hN3 => ?_
    walk_at "dw"
    refine draw (by omega) (by omega) fun wy _ _ => ?_
    subst hN3
    refine seqG fun N3 hN3 => ?_
    walk_at "dw"
    rw [List.length_map]
    refine draw (by omega) (by omega) fun pl p0 p1 => ?_
    obtain ⟨a, rfl⟩ := Int.eq_ofNat_of_zero_le p0
    have ha : a ≤ ws.length := by omega
    subst hN3
    refine seqG fun N3 hN3 => ?_
    walk_at "dw"
    rw [List.length_map]
    refine draw (by omega) (by omega) fun ot o0 o1 => ?_
    obtain ⟨b, rfl⟩ := Int.eq_ofNat_of_zero_le o0
    have go : ∀ ws' : List Str, ws'.length ≤ ws.length + 3 → (∀ x ∈ ws', WdS x) → N2 [Sl.d .pool, Sl.d (.lst (ws'.map .str)), Sl.d (.lst (ks.map kdT)), Sl.d (.int (0 + (i : Int))), Sl.d (.int wy), Sl.d (.int a), Sl.d (.int b)] := fun ws' l h => hN2 _ ((hW _ _).mpr ⟨ws', _, _, _, _, rfl, by omega, h⟩)
    clear hN2 hW W p0 p1 o0 o1
    have tk : ∀ n x, x ∈ ws.take n → WdS x := fun n x h => hw x (List.mem_of_mem_take h)
    have dp : ∀ n x, x ∈ ws.drop n → WdS x := fun n x h => hw x (List.mem_of_mem_drop h)
    have td : ∀ n m x, x ∈ (ws.drop n).take m → WdS x := fun n m x h => hw x (List.mem_of_mem_drop (List.mem_of_mem_take h))
    have l1 : (ws.take a).length ≤ a := by rw [List.length_take]; exact Nat.min_le_left _ _
    have l2 : ∀ k, (ws.drop k).length = ws.length - k := fun k => List.length_drop
    have l3 : ∀ k m, ((ws.drop k).take m).length ≤ m := fun k m => by rw [List.length_take]; exact Nat.min_le_left _ _
    subst hN3
    walk_at "dw"
    rw [show (a : Int) + 1 = ((a + 1 : Nat) : Int) from rfl, show (a : Int) + 2 = ((a + 2 : Nat) : Int) from rfl, show (b : Int) + 1 = ((b + 1 : Nat) : Int) from rfl, show (b : Int) + 3 = ((b + 3 : Nat) : Int) from rfl]
    simp only [cS, cDr, cM (Nat.le_add_right _ _), cM (show a + 1 ≤ a + 2 from Nat.le_succ _)]
    have lz : ∀ {A : List Str}, (A.map Dat.str).length = A.length := List.length_map _
    have g2 : ∀ A B : List Str, (∀ x ∈ A, WdS x) → (∀ x ∈ B, WdS x) → A.length + B.length ≤ ws.length + 3 → (A.map Dat.str).length + (B.map Dat.str).length ≤ 100000 ∧ N2 [Sl.d .pool, Sl.d (.lst (A.map Dat.str ++ B.map Dat.str)), Sl.d (.lst (ks.map kdT)), Sl.d (.int (0 + (i : Int))), Sl.d (.int wy), Sl.d (.int a), Sl.d (.int b)] := fun A B hA hB l => by
      refine ⟨by rw [lz, lz]; omega, ?_⟩
      rw [← List.map_append]
      exact go _ (by rw [List.length_append]; omega) fun x hx => (List.mem_append.mp hx).elim (hA x) (hB x)
    have g3 : ∀ A B C : List Str, (∀ x ∈ A, WdS x) → (∀ x ∈ B, WdS x) → (∀ x ∈ C, WdS x) → A.length + B.length + C.length ≤ ws.length + 3 → (A.map Dat.str).length + (B.map Dat.str).length ≤ 100000 ∧ (A.map Dat.str ++ B.map Dat.str).length + (C.map Dat.str).length ≤ 100000 ∧ N2 [Sl.d .pool, Sl.d (.lst (A.map Dat.str ++ B.map Dat.str ++ C.map Dat.str)), Sl.d (.lst (ks.map kdT)), Sl.d (.int (0 + (i : Int))), Sl.d (.int wy), Sl.d (.int a), Sl.d (.int b)] := fun A B C hA hB hC l => by
      refine ⟨by rw [lz, lz]; omega, ?_⟩
      rw [← List.map_append]
      exact g2 _ _ (fun x hx => (List.mem_append.mp hx).elim (hA x) (hB x)) hC (by rw [List.length_append]; omega)
    refine twoD (fun _ => g2 _ _ (tk _) (dp _) (by rw [l2]; omega)) (fun _ => ?_)
    refine twoD (fun _ => ⟨ks, rfl, kok, fun x hx => g3 _ [x] _ (tk _) (fun y hy => by rw [List.mem_singleton.mp hy]; exact hx) (dp _) (by rw [l2, List.length_singleton]; omega)⟩) (fun _ => ?_)
    refine twoD (fun _ => ⟨ks, rfl, kok, fun x hx => g3 _ [x] _ (tk _) (fun y hy => by rw [List.mem_singleton.mp hy]; exact hx) (dp _) (by rw [l2, List.length_singleton]; omega)⟩) (fun _ => ?_)
    refine twoD (fun _ => g3 _ _ _ (tk _) (td _ _) (dp _) (by have := l3 b (b + 1 - b); rw [l2]; omega)) (fun _ => ?_)
    refine twoD (fun _ => g3 _ _ _ (tk _) (td _ _) (dp _) (by have := l3 b (b + 3 - b); rw [l2]; omega)) (fun _ => ?_)
    have l4 := l3 (a + 1) (a + 2 - (a + 1))
    have l5 := l3 a (a + 1 - a)
    refine ⟨by rw [lz, lz]; omega, ?_⟩
    rw [← List.map_append]
    exact g3 _ _ _ (fun x hx => (List.mem_append.mp hx).elim (tk _ x) (td _ _ x)) (td _ _) (dp _) (by rw [List.length_append, l2]; omega)
  · intro env w
    obtain ⟨ws, t3, t4, t5, t6, rfl, lw, hw⟩ := (hW _ _).mp w
    show N _
    subst hN
    walk_at "dw"
    exact hp ws (by omega) hw
def aspLWk : ASp := fun ds P => ∃ (ks : List Kd), ds = [.pool, .lst (ks.map kdT)] ∧ KsA ks ∧ ∀ ws' : List Str, ws'.length ≤ 450 → (∀ x ∈ ws', WdS x) → P (.lst (ws'.map .str))
theorem ok_law_walked {f : Addr} {fd : FuncData} (F : Fun K "_law_walked" "_law_walked" s__law_walked f fd) (B : Blt mg) (C__law_draw : C8.Cal P w K mg base 1 "_law_draw" (toSp K ca aspDraw) []) (C__law_menu : C8.Cal P w K mg base 2 "_law_menu" (toSp K ca aspLMn) []) (C__law_wrong : C8.Cal P w K mg base 4 "_law_wrong" (toSp K ca aspLWr) []) : FnOk P w K mg base CX0 5 f fd ["pool", "kinds"] (toSp K ca aspLWk) := by
  refine F.ok sc__law_walked (fun vs H Q E h => sp_len (n := 2) (fun ds P a => by obtain ⟨_, rfl, _⟩ := a; rfl) h) (fun cdv A outer s H vs Q E hr h => ⟨_, (pss_cons (ps_set (i := 2) sc__law_walked.nd rfl (.inl rfl) (pe_lst pa_nil))
      (pss_cons (ps_for PassesOwn.never rfl (pi_range1 rfl B.range (pa_cons (C8.pe_c C__law_draw hr (by omega) rfl (pa_cons (pv 0) (pa_cons pe_int pa_nil))) pa_nil)) (pg_name (i := 3) sc__law_walked.nd rfl (.inl rfl))
      (pss_cons (ps_set (i := 4) sc__law_walked.nd rfl (.inl rfl) (C8.pe_c C__law_menu hr (by omega) rfl (pa_cons (pv 0) (pa_cons (pv 1) pa_nil))))
      (pss_cons (ps_for PassesOwn.never rfl (pi_range1 rfl B.range (pa_cons pe_int pa_nil)) (pg_name (i := 5) sc__law_walked.nd rfl (.inl rfl))
      (pss_one (ps_if (pt_cmpR (keqd (K := K) rfl hr.units) (C8.pe_c C__law_wrong hr (by omega) rfl (pa_cons (pe_op op_cat (pv 2) (pe_lst (pa_cons (pv 4) pa_nil))) (pa_cons (pv 1) pa_nil))) (pe_callB (klen (K := K) rfl) (by rfl) B.len bt_len (pa_cons (pv 2) pa_nil)) (nomark _)) (pss_one (ps_set (i := 4) sc__law_walked.nd rfl (.inl rfl) (C8.pe_c C__law_menu hr (by omega) rfl (pa_cons (pv 0) (pa_cons (pv 1) pa_nil))))) pss_nil)))
      (pss_one (ps_expr (pe_bm PySem.F.plainAttrs_list PySem.F.slot_list_append PySem.F.type_list_append mt_append (pv 2) (pa_cons (pv 4) pa_nil)))))))
      (pss_one (ps_ret (pv 2))))),
    fn_run h (fun po => (s_seq (s_setO fun _ => (a_lst a_nil))
      (s_seq (s_for (vs := [3]) (fun _ => (i_ran1 (a_cons (a_call (a_cons a_var (a_cons a_int a_nil))) a_nil))) (fun _ => (g_name (by decide)))
      (s_seq (s_set fun _ => (a_call (a_cons a_var (a_cons a_var a_nil))))
      (s_seq (s_for (vs := [5]) (fun _ => (i_ran1 (a_cons a_int a_nil))) (fun _ => (g_name (by decide)))
      (s_if (fun _ => (a_test (a_op pst_pk rok_eqD (a_pk (a_call (a_cons (a_fz (a_opF pst_pk rok_catL a_peek (a_pk (a_fz (a_lst (a_cons a_var a_nil)))))) (a_cons a_var a_nil)))) (a_pk (a_b1 u_len a_peek))))) (s_set fun _ => (a_call (a_cons a_var (a_cons a_var a_nil)))) s_next))
      (s_app fun _ => a_var))))
      (s_fz (i := 2) (s_ret fun _ => a_var))))) (fun ds P a => by obtain ⟨_, rfl, _⟩ := a; exact Nat.le_of_ble_eq_true rfl) ?_⟩)
  rintro ds P ⟨ks, rfl, kok, hp⟩
  refine seqG fun N hN => ?_
  walk_at "dw"
  subst hN
  refine seqG fun N hN => ?_
  walk_at "dw"
  refine draw (by omega) (by omega) fun n n0 n1 => ?_
  refine ⟨by omega, by omega, ?_⟩
  have hSt : ∃ W : Nat → List Sl → Prop, ∀ i env, W i env ↔ ∃ (ws : List Str) (t3 t4 t5 : Sl), env = [Sl.d .pool, Sl.d (.lst (ks.map kdT)), Sl.o (ws.map .str), t3, t4, t5] ∧ ws.length ≤ i ∧ ∀ x ∈ ws, WdS x := ⟨_, fun _ _ => Iff.rfl⟩
  obtain ⟨W, hW⟩ := hSt
  refine forA_ran W ((hW _ _).mpr ⟨[], _, _, _, rfl, Nat.le_refl _, fun _ h => nomatch h⟩) ?_ ?_
  · intro i env hi w N2 hN2
    obtain ⟨ws, t3, t4, t5, rfl, lw, hw⟩ := (hW _ _).mp w
    clear w
    have hi : i < 26 := by omega
    refine seqG fun N3 hN3 => ?_
    walk_at "dw"
    refine ⟨ks, rfl, kok, fun x hx => ?_⟩
    subst hN3
    refine seqG fun N3 hN3 => ?_
    walk_at "dw"
    refine ⟨by omega, by omega, ?_⟩
    have hSt2 : ∃ W2 : Nat → List Sl → Prop, ∀ j env, W2 j env ↔ ∃ (x : Str) (t5 : Sl), env = [Sl.d .pool, Sl.d (.lst (ks.map kdT)), Sl.o (ws.map .str), Sl.d (.int (0 + (i : Int))), Sl.d (.str x), t5] ∧ WdS x := ⟨_, fun _ _ => Iff.rfl⟩
    obtain ⟨W2, hW2⟩ := hSt2
    refine forA_ran W2 ((hW2 _ _).mpr ⟨x, _, rfl, hx⟩) ?_ ?_
    · clear hx x
      intro j env hj w N4 hN4
      obtain ⟨x, t5', rfl, hx⟩ := (hW2 _ _).mp w
      clear w
      walk_at "dw"
      refine ⟨by rw [List.length_map]; omega, ?_⟩
      refine ⟨ks, ws ++ [x], by rw [List.map_append]; rfl, ⟨kok, by rw [List.length_append, List.length_singleton]; omega, fun y hy => ?_⟩, ?_⟩
      · have hy : WdS y := (List.mem_append.mp hy).elim (hw y) fun h => by rw [List.mem_singleton.mp h]; exact hx
        exact ⟨Nat.le_trans hy.1.1 (by decide), hy.2⟩
      refine ⟨by cases wrongO ks (ws ++ [x]) <;> first | trivial | exact okE_int _ _, okE_int _ _, fun b hb => ?_⟩
      walk_at "dw"
      cases b with
      | true =>
        walk_at "dw"
        exact ⟨ks, rfl, kok, fun x' hx' => hN4 _ ((hW2 _ _).mpr ⟨x', _, rfl, hx'⟩)⟩
      | false =>
        walk_at "dw"
        exact hN4 _ ((hW2 _ _).mpr ⟨x, _, rfl, hx⟩)
    · intro env w
      obtain ⟨x, t5', rfl, hx⟩ := (hW2 _ _).mp w
      show N3 _
      subst hN3
      walk_at "dw"
      refine ⟨by rw [List.length_map]; omega, ?_⟩
      exact hN2 _ ((hW _ _).mpr ⟨ws ++ [x], _, _, _, by rw [List.map_append]; rfl, by rw [List.length_append, List.length_singleton]; omega, fun y hy => (List.mem_append.mp hy).elim (hw y) fun h => by rw [List.mem_singleton.mp h]; exact hx⟩)
  · intro env w
    obtain ⟨ws, t3, t4, t5, rfl, lw, hw⟩ := (hW _ _).mp w
    show N _
    subst hN
    walk_at "dw"
    exact hp ws (by omega) hw
end
abbrev s__law_pool : Stmt := top 34
theorem sc__law_pool : FnScope ["script", "budget"] ["script", "budget"] (defScope s__law_pool) := ⟨rfl, rfl, rfl, by decide +kernel, rfl, by decide +kernel, by decide +kernel⟩
section
variable {P : Program} {w : World} {K : PySem.W.Frag} {mg : Str → Option Value} {base : Heap}
def spPool (K : PySem.W.Frag) : Sp := fun vs H Q _ => ∃ (a : Addr) (ns : List Int) (z : Int), vs = [.ref a, .int z] ∧ SqL K H a (ns.map V.int) ∧
  ∀ p c H', Same H H' → H p = none → PoolAt H' p c → Q (.ref p) H'
theorem ok_law_pool {f : Addr} {fd : FuncData} (F : Fun K "_law_pool" "_law_pool" s__law_pool f fd) (B : Blt mg) : FnOk P w K mg base CX0 1 f fd ["script", "budget"] (spPool K) := by
  refine F.ok sc__law_pool (fun vs H Q E h => ?_) (fun cdv A outer s H vs Q E hr h => ?_)
  · obtain ⟨a, ns, z, rfl, _⟩ := h
    rfl
  · obtain ⟨a, ns, z, rfl, hS, q⟩ := h
    refine ⟨_, (pss_one (ps_ret (pe_lst (pa_cons (pe_callTy (klist (K := K) rfl) (by rfl) B.list bt_list (pa_cons (pv 0) pa_nil)) (pa_cons pe_int (pa_cons pe_int (pa_cons pe_int (pa_cons pe_int (pa_cons (pv 1) pa_nil))))))))), ?_⟩
    walk_at "go"
    intro c hc
    walk_at "go"
    intro p hp
    have s1 := same_new (o := .lst (ns.map V.int)) hc
    refine q p c _ (s1.trans (same_new hp)) (s1.free hp) ⟨ns, 0, 0, 1, 0, z, upd_same, ?_, by omega, by omega, by omega⟩
    rw [upd_ne (ne_of_none upd_same hp), upd_same]
end
def spLaw (K : PySem.W.Frag) : Sp := fun vs H Q _ => ∃ (a : Addr) (ns : List Int), vs = [.ref a] ∧ SqL K H a (ns.map V.int) ∧ ∀ H', Q (.bl true) H'
theorem law_runB {K : PySem.W.Frag} {ca : Nat → Addr} {a p c : Addr} {n : Nat} {H1 : Hp} {Q : VK} {ts : TS} {E : XS} {bs : BSt} (hs : ∀ po, BStm ⟨K, ca, po⟩ E ts bs) (hP : PoolAt H1 p c) (z : ∀ H', Q (.bl true) H')
    (hb : bs { nx := fun _ _ => False, rt := fun d _ => d = .bl true } (.u :: .d .pool :: List.replicate n .u) (fun _ => none)) : ts { nx := fun _ H' => Q .non H', rt := Q } (some (.ref a) :: some (.ref p) :: List.replicate n none) H1 := by
  have ok : Okk ⟨K, ca, some (p, c)⟩ (fun _ => False) H1 := ⟨fun _ f => f.elim, fun p' c' e => by
    cases e
    exact ⟨hP, fun f => f, fun f => f⟩⟩
  have rep : ∀ (i : Nat) (s : Sl), (List.replicate n Sl.u)[i]? = some s → s = .u ∧ i < n := fun i s e => by
    obtain ⟨hb, e⟩ := List.getElem?_eq_some_iff.mp e
    rw [List.getElem_replicate] at e
    rw [List.length_replicate] at hb
    exact ⟨e.symm, hb⟩
  have m : Mt ⟨K, ca, some (p, c)⟩ H1 (fun _ => False) H1 (some (.ref a) :: some (.ref p) :: List.replicate n none) (.u :: .d .pool :: List.replicate n .u) := by
    refine ⟨by simp, fun i s e => ?_, fun i j xs ys b e => ?_⟩
    · match i with
      | 0 => cases e; exact ⟨_, rfl, trivial⟩
      | 1 => cases e; exact ⟨_, rfl, _, rfl, .pool rfl⟩
      | i + 2 =>
        obtain ⟨rfl, hi⟩ := rep i s e
        refine ⟨none, ?_, trivial⟩
        show (List.replicate n (none : Option V))[i]? = _
        rw [List.getElem?_eq_getElem (by rw [List.length_replicate]; exact hi), List.getElem_replicate]
    · match i with
      | 0 => cases e
      | 1 => cases e
      | i + 2 =>
        have := (rep i _ e).1
        cases this
  have st : SoOk ⟨K, ca, some (p, c)⟩ (fun _ => False) H1 (fun _ => none) := ⟨ok, fun _ _ e => by cases e⟩
  have m2 : Mt2 ⟨K, ca, some (p, c)⟩ H1 (fun _ => False) H1 (fun _ => none) (some (.ref a) :: some (.ref p) :: List.replicate n none) (.u :: .d .pool :: List.replicate n .u) := m
  exact (hs (some (p, c))).run _ H1 _ _ H1 _ { nx := fun _ _ => False, rt := fun d _ => d = .bl true } _ _ _ H1 _ ⟨⟨.refl st, Sub.refl _ _⟩, m2⟩
    ⟨fun σ env F' H' M' b m p => p.elim, fun v d F' H' M' b r e => by
      subst e
      cases r
      exact z H', fun _ _ _ _ _ _ _ p => p.elim, fun _ _ _ _ _ _ _ p => p.elim, fun _ _ _ _ _ _ _ => .zero⟩ hb
theorem law_startB {K : PySem.W.Frag} {ca : Nat → Addr} {a : Addr} {ns : List Int} {x y : Str} {N : List Str} {b : Int} {E' : XK} {H : Hp} {Q : VK} {ts : TS} {E : XS} {bs : BSt} (hS : SqL K H a (ns.map V.int)) (z : ∀ H', Q (.bl true) H') (hs : ∀ po, BStm ⟨K, ca, po⟩ E ts bs)
    (hb : bs { nx := fun _ _ => False, rt := fun d _ => d = .bl true } (.u :: .d .pool :: List.replicate N.length .u) (fun _ => none)) :
    tSeq (tAsg (tCall (spPool K) [] E' (tCons (tVar 0) (tCons (tC (.int b)) tNil))) (gName 1)) ts { nx := fun _ H' => Q .non H', rt := Q } (L2.start (x :: y :: N) [.ref a]) H :=
  ⟨_, rfl, a, ns, _, rfl, hS, fun p c H1 s1 n1 hP => law_runB hs hP z hb⟩
abbrev s_law : Stmt := top 53
theorem sc_law : FnScope ["script", "pool", "kinds", "made", "words", "wrong", "actual", "e", "name", "fields"] ["script"] (defScope s_law) := ⟨rfl, rfl, rfl, by decide +kernel, rfl, by decide +kernel, by decide +kernel⟩
/-- the error classes -/
structure Errs31 (K : PySem.W.Frag) (mg : Str → Option Value) (ca : Nat → Addr) (CV CG CO CR CQ CU : Addr) : Prop where
  VouchError : mg "VouchError" = some (.ref CV)
  BadGroup : mg "BadGroup" = some (.ref CG)
  BadOpening : mg "BadOpening" = some (.ref CO)
  BadQuestion : mg "BadQuestion" = some (.ref CQ)
  BadRequest : mg "BadRequest" = some (.ref CR)
  BadText : mg "BadText" = some (.ref (ca 14))
  BadTurn : mg "BadTurn" = some (.ref CU)
theorem kw_str : kwS.all (fun x => PyData.strOk x) = true := by decide +kernel
theorem txt_str : (List.range 100).all (fun k => PyData.strOk (toString ((k : Nat) : Int))) = true := by decide +kernel
theorem str_txt {k : Int} (h0 : 0 ≤ k) (h1 : k < 100) : PyData.strOk (toString k) = true := by
  obtain ⟨n, rfl⟩ := Int.eq_ofNat_of_zero_le h0
  exact List.all_eq_true.mp txt_str n (List.mem_range.mpr (by omega))
theorem str_kw {x : Str} (h : x ∈ kwS) : PyData.strOk x = true := List.all_eq_true.mp kw_str x h
theorem cn_str {vs : List Vl} (vok : ∀ v ∈ vs, 1 ≤ v.sz ∧ v.sz ≤ 16 ∧ isNm v.cn = true ∧ isNm v.fn = true) {x : Cnd} (h : CnFit vs x) : ∀ y ∈ cndW x, PyData.strOk y = true := by
  have hd : PyData.strOk (cnC x).1 = true → PyData.strOk (cnC x).2 = true → (∀ y ∈ rsC x, PyData.strOk y = true) → ∀ y ∈ cndW x, PyData.strOk y = true := fun h1 h2 h3 y hy => by
    rcases List.mem_cons.mp hy with rfl | hy
    · exact str_kw (cw_kw (wdC_cw x)).1
    · rcases List.mem_cons.mp hy with rfl | hy
      · exact h1
      · rcases List.mem_cons.mp hy with rfl | hy
        · exact h2
        · exact h3 y hy
  cases h with
  | tell v h => exact hd (strOk_nm (vok v h).2.2.1) (strOk_nm (vok v h).2.2.2) fun y hy => nomatch hy
  | equal v h n n0 n1 => exact hd (strOk_nm (vok v h).2.2.1) (strOk_nm (vok v h).2.2.2) fun y hy => by have := (vok v h).2.1; rw [List.mem_singleton.mp hy]; exact str_txt n0 (by omega)
  | least v h n n0 n1 => exact hd (strOk_nm (vok v h).2.2.1) (strOk_nm (vok v h).2.2.2) fun y hy => by have := (vok v h).2.1; rw [List.mem_singleton.mp hy]; exact str_txt n0 (by omega)
  | among v h ns ne rg pw =>
    refine hd (strOk_nm (vok v h).2.2.1) (strOk_nm (vok v h).2.2.2) fun y hy => ?_
    obtain ⟨n, hn, rfl⟩ := List.mem_map.mp hy
    have := (vok v h).2.1
    have := rg n hn
    exact str_txt this.1 (by omega)
  | same v u h hu ne =>
    refine hd (strOk_nm (vok v h).2.2.1) (strOk_nm (vok v h).2.2.2) fun y hy => ?_
    rcases List.mem_cons.mp hy with rfl | hy
    · exact strOk_nm (vok u hu).2.2.1
    · rw [List.mem_singleton.mp hy]
      exact strOk_nm (vok u hu).2.2.2
theorem pol_wds {ks : List Kd} {cs : List Cd} {co : List Cnd} (kok : KsA ks) (h : PolA ks cs co) : ∀ y ∈ polW cs co, WdS y := fun y hy => by
  refine ⟨(h.b kok).hw y hy, ?_⟩
  obtain ⟨vok, val⟩ := vals_ok kok h.l3 h.nd h.cd
  rcases List.mem_append.mp hy with hy | hy
  · obtain ⟨c, hc, hy⟩ := List.mem_flatMap.mp hy
    have cd := h.cd c hc
    rcases List.mem_cons.mp hy with rfl | hy
    · exact str_kw (by decide)
    rcases List.mem_cons.mp hy with rfl | hy
    · exact strOk_nm cd.nm
    rcases List.mem_cons.mp hy with rfl | hy
    · obtain ⟨k, mk, e⟩ := List.mem_map.mp cd.kn
      rw [← e]
      exact strOk_nm (kok.nm k mk)
    rcases List.mem_cons.mp hy with rfl | hy
    · exact str_kw (by decide)
    · exact strOk_nm (cd.al y hy)
  · obtain ⟨x, hx, hy⟩ := List.mem_flatMap.mp hy
    exact cn_str val (h.co x hx) y hy
theorem jn_len5 {ws : List Str} (l : ws.length ≤ 450) (h : ∀ x ∈ ws, WdS x) : (Txt.join " " ws).length ≤ 100000 := by
  show (PySem.Builtin.Str.glued " " ws).cps.size ≤ _
  rw [PySem.Builtin.Str.glued.eq_1]
  show (List.foldl (fun acc p => acc ++ (Str.ofString " ").cps ++ p.cps) (ws.headD Str.empty).cps (ws.drop 1)).size ≤ _
  rw [PySem.size_gluedFold, show (Str.ofString " ").length = 1 by decide]
  have h1 : (ws.headD Str.empty).cps.size ≤ 100 := by
    cases ws with
    | nil => exact Nat.zero_le _
    | cons x ws => exact (h x List.mem_cons_self).1.1
  have h2 := sum_le_mul (f := fun x : Str => x.length) (m := 100) (xs := ws.drop 1) fun x hx => (h x (List.mem_of_mem_drop hx)).1.1
  rw [List.length_drop] at h2 ⊢
  omega
/-- the words as the program has them -/
theorem split_of {ks : List Kd} {ws : List Str} (l : ws.length ≤ 450) (h : ∀ x ∈ ws, WdS x) : ∃ wp : List Str, Txt.split (Txt.join " " ws) " " = wp ∧ wrongO ks wp = wrongO ks ws ∧ (wp = ws ∨ wrongO ks ws ≠ none) ∧ wp.length ≤ 1000 ∧ ∀ x ∈ wp, x.length ≤ 1000 := by
  cases ws with
  | nil =>
    refine ⟨[""], by decide +kernel, ?_, .inr ?_, by decide, fun x hx => by rw [List.mem_singleton.mp hx]; decide⟩
    · show (match stStart ks [] 0 "" with
        | none => some 0
        | some s' => wrongF ks (0 + 1) s' []) = some 0
      have : stStart ks [] 0 "" = none := by
        unfold stStart
        rw [if_neg (fun z => absurd z.1 (by decide)), if_neg (fun z => z.2.2.1 rfl)]
      rw [this]
    · exact fun z => by cases z
  | cons x xs => exact ⟨x :: xs, spl_jn (fun z => nomatch z) fun y hy => (h y hy).1, rfl, .inl rfl, by omega, fun y hy => by have := (h y hy).1.1; omega⟩
section
variable {P : Program} {w : World} {K : PySem.W.Frag} {mg : Str → Option Value} {base : Heap} {ca : Nat → Addr} {CV CG CO CR CQ CU : Addr}
theorem ok_law {f : Addr} {fd : FuncData} (F : Fun K "law" "law" s_law f fd) (B : Blt mg) (T3 : KdT K (ca 3)) (G : Errs31 K mg ca CV CG CO CR CQ CU) (C__law_pool : C8.Cal P w K mg base 1 "_law_pool" (spPool K) []) (C__law_draw : C8.Cal P w K mg base 1 "_law_draw" (toSp K ca aspDraw) [])
    (XE : ExcC K (ca 14)) (XF : XfC K (ca 14) ∧ PySem.W.findIn K (.ref (ca 14)) "at" = some none) (IX_BadText : PySem.W.kitOne K (.ref (ca 14)) (.ref (ca 14)) = some true)
    (IX_BadGroup_BadOpening_BadQuestion_BadRequest_BadTurn : PySem.W.kitAny K (.ref (ca 14)) [.ref CG, .ref CO, .ref CQ, .ref CR, .ref CU] = some false) (XK_law : ∀ k ∈ [14], (∃ f, xcN k = some f) ∧ PySem.W.exmOne K (.ref (ca k)) (.ref CV) = some true)
    (C__law_all_kinds : C8.Cal P w K mg base 4 "_law_all_kinds" (toSp K ca aspLAK) []) (C__law_policy : C8.Cal P w K mg base 4 "_law_policy" (toSp K ca aspLPol) []) (C__law_words : C8.Cal P w K mg base 1 "_law_words" (toSp K ca aspLWords) []) (C__law_walked : C8.Cal P w K mg base 5 "_law_walked" (toSp K ca aspLWk) []) (C__law_changed : C8.Cal P w K mg base 3 "_law_changed" (toSp K ca aspLCh) []) (C__law_wrong : C8.Cal P w K mg base 4 "_law_wrong" (toSp K ca aspLWr) [])
    (C__law_same : C8.Cal P w K mg base 14 "_law_same" (toSp K ca (aspSame 14)) []) (W__law_same : CalW P w K mg base 1 "_law_same" (toSp K ca aspSameW)) (X_read_policy : CalX P w K mg base 7 "read_policy" (toSp2 K ca bspReadX)) (C_policy_text : C8.Cal P w K mg base 1 "policy_text" (toSp K ca aspPText) [])
    (K_Kind : C8.Mak P w K mg base 1 "Kind" (ca 3) (toSpI K ca 3 aspKdI) []) : FnOk P w K mg base CX0 24 f fd ["script"] (spLaw K) := by
  refine F.ok sc_law (fun vs H Q E h => ?_) (fun cdv A outer s H vs Q E hr h => ?_)
  · obtain ⟨a, ns, rfl, _⟩ := h
    rfl
  obtain ⟨a, ns, rfl, hS, z⟩ := h
  refine ⟨_, (pss_cons (ps_set (i := 1) sc_law.nd rfl (.inl rfl) (C8.pe_c C__law_pool hr (by omega) rfl (pa_cons (pv 0) (pa_cons pe_int pa_nil))))
      (pss_cons (ps_set (i := 2) sc_law.nd rfl (.inl rfl) (C8.pe_c C__law_all_kinds hr (by omega) rfl (pa_cons (pv 1) pa_nil)))
      (pss_cons (ps_setLc (i := 3) (own := [("name", 8), ("fields", 9)]) (tt := tYes) rfl sc_law.nd rfl rfl (sw_true rfl rfl rfl (by decide +kernel)) (kpil (K := K) rfl (pv 2)) (blkOk_by (N := ["script", "pool", "kinds", "made", "words", "wrong", "actual", "e", "name", "fields"]) (sc := defScope s_law) (by decide +kernel))
        (fun _ _ _ _ _ => (kgtup (K := K) (n := 2) rfl rfl (pgs_cons (pg_name (i := 8) sc_law.nd rfl (.inl rfl)) (pgs_cons (pg_name (i := 9) sc_law.nd rfl (.inl rfl)) pgs_nil)))) (fun _ _ _ _ _ => pts_nil)
        (fun _ _ _ _ _ => (C8.pe_mk K_Kind hr (by omega) rfl (pa_cons (pv 8) (pa_cons (pv 9) pa_nil)))))
      (C8.pss_cut (ps_if (pt_cmpR op_eq (C8.pe_c C__law_draw hr (by omega) rfl (pa_cons (pv 1) (pa_cons pe_int pa_nil))) pe_int (nomark _)) (pss_one (ps_set (i := 4) sc_law.nd rfl (.inl rfl) (C8.pe_c C__law_walked hr (by omega) rfl (pa_cons (pv 1) (pa_cons (pv 2) pa_nil))))) (pss_one (ps_set (i := 4) sc_law.nd rfl (.inl rfl) (C8.pe_c C__law_changed hr (by omega) rfl (pa_cons (pv 1) (pa_cons (C8.pe_c C__law_words hr (by omega) rfl (pa_cons (C8.pe_c C__law_policy hr (by omega) rfl (pa_cons (pv 1) (pa_cons (pv 2) pa_nil))) pa_nil)) (pa_cons (pv 2) pa_nil)))))))
      (C8.pss_cut (ps_if (PW.pt (pw_and (pt_cmpR op_eq (pe_callB (klen (K := K) rfl) (by rfl) B.len bt_len (pa_cons (pv 4) pa_nil)) pe_int (nomark _)) (pw_and1 (pt_cmpR op_eq (pe_ix (kixs (K := K) rfl) (pv 4) pe_int (fun _ _ => rfl)) pe_str (nomark _))))) (pss_one (ps_set (i := 4) sc_law.nd rfl (.inl rfl) (pe_lst pa_nil))) pss_nil)
      (pss_cons (ps_set (i := 5) sc_law.nd rfl (.inl rfl) (C8.pe_c C__law_wrong hr (by omega) rfl (pa_cons (pv 4) (pa_cons (pv 2) pa_nil))))
      (C8.pss_cut ((ps_try_as (i := 7) (Wout := fun _ _ _ _ => False) rfl rfl sc_law.nd rfl rfl ⟨rfl, by decide, .inl G.VouchError⟩ takes0
        (fun W pn xe tk po => (pss_one (ps_set (i := 6) sc_law.nd rfl (.inl rfl) (by exact (C8.pe_c C_policy_text hr (by omega) rfl (pa_cons (by exact (pe_cX X_read_policy tk hr (by omega) rfl (pa_cons (kjoin (K := K) rfl pe_str (pv 4)) (pa_cons (pv 3) pa_nil)))) pa_nil))))))
        (fun a oe cls d pn hz hf => (pss_cons (ps_if (PW.pt (pw_or (pt_val (pe_callB (kisXT (K := K) rfl hz hf) (by rfl) B.isinstance bt_isinstance (pa_cons (pv 7) (pa_cons (pe_tup (pa_cons (pe_globC rfl G.BadGroup) (pa_cons (pe_globC rfl G.BadOpening) (pa_cons (pe_globC rfl G.BadQuestion) (pa_cons (pe_globC rfl G.BadRequest) (pa_cons (pe_globC rfl G.BadTurn) pa_nil)))))) pa_nil)))) (pw_or1 (pt_not (pt_val (pe_callB (kisX (K := K) rfl hz hf) (by rfl) B.isinstance bt_isinstance (pa_cons (pv 7) (pa_cons (pe_globC rfl G.BadText) pa_nil)))))))) (pss_one (ps_ret pe_bl)) pss_nil)
      (pss_one (ps_ret (pe_and (pe_cmpR op_notN (pv 5) pe_non (nomark _)) (pe_one (pe_cW W__law_same (show Rm 23 _ from ⟨hr.dp, hr.un⟩) (by omega) rfl (pa_cons (pe_xf XF.1 XF.2 hz hf (pv 7)) (pa_cons (pv 5) pa_nil)))))))))))
      (pss_one (ps_ret (pe_and (pe_cmpR op_isN (pv 5) pe_non (nomark _)) (pe_one (C8.pe_c C__law_same hr (by omega) rfl (pa_cons (pv 6) (pa_cons (pe_join pe_str (pv 4)) pa_nil)))))))))))))), ?_⟩
  refine law_startB (ca := ca) (E := fun _ _ _ _ => False) hS z (fun po => (z_seq (z_set fun _ => (b_up fun _ => (a_call (a_cons a_var a_nil))))
      (z_seq (z_set fun _ => (b_up fun _ => (a_fz (a_lc (vs := [8, 9]) (i_list a_var) (g_tup (g_cons (g_name (by decide)) (g_cons (g_name (by decide)) g_nil tot_name) tot_name)) a_yes (a_make (a_cons a_var (a_cons a_var a_nil)))))))
      (z_cut (z_if (fun _ => (b_upT fun _ => (a_test (a_op pst_rv rok_eq (a_call (a_cons a_var (a_cons a_int a_nil))) a_int)))) (z_set fun _ => (b_up fun _ => (a_call (a_cons a_var (a_cons a_var a_nil))))) (z_set fun _ => (b_up fun _ => (a_call (a_cons a_var (a_cons (a_call (a_cons (a_call (a_cons a_var (a_cons a_var a_nil))) a_nil)) (a_cons a_var a_nil)))))))
      (z_cut (z_if (fun _ => (b_upT fun _ => (a_and (a_test (a_op pst_rv rok_eq (a_b1 u_len (a_pk a_var)) a_int)) (a_test (a_op pst_rv rok_eq (a_op pst_pk rok_ix (a_pk a_var) a_int) a_str))))) (z_set fun _ => (b_up fun _ => (a_fz (a_lst a_nil)))) z_next)
      (z_seq (z_set fun _ => (b_up fun _ => (a_call (a_cons a_var (a_cons a_var a_nil)))))
      (z_cut (z_try1 (i := 7) XK_law (fun _ => (z_set fun _ => (b_call (b_cons (b_callX (b_upA fun _ => (a_cons (a_join a_str a_var) (a_cons a_var a_nil)))) b_nil))))
      (fun a dd => (z_seq (z_if (fun _ => (b_or (b_tb (b_isXT XE (.cons (.cons (.cons (.cons (.cons ClsA.nil))))) (Nat.le_of_ble_eq_true rfl) (.cons (.own _) (.cons (.own _) (.cons (.own _) (.cons (.own _) (.cons (.own _) .nil))))) IX_BadGroup_BadOpening_BadQuestion_BadRequest_BadTurn)) (b_not (b_tb (b_isX XE (.own _) IX_BadText))))) (z_ret fun _ => (b_up fun _ => a_bl)) z_next)
      (z_ret fun _ => (b_andV (b_up fun _ => (a_op pst_rv rok_notN a_var a_non)) (b_call (b_cons (b_what (kk := 14) rfl) (b_cons (b_up fun _ => a_var) b_nil))))))))
      (z_ret fun _ => (b_up fun _ => (a_andV (a_op pst_rv rok_isN a_var a_non) (a_call (a_cons a_var (a_cons (a_join a_str a_var) a_nil))))))))))))) ?_
  refine zseqG fun N hN => ?_
  walk_at "wq"
  refine ⟨rfl, fun ks kok => ?_⟩
  have l8 := kok.l8
  subst hN
  refine zseqG fun N hN => ?_
  walk_at "wq"
  refine ⟨by rw [List.length_map]; omega, ?_⟩
  refine lcA_mapL (g := kdP) (fun k hk Q hQ => ?_) ?_
  · have := (kok.f4 k hk).1
    unfold kdT
    walk_at "dw"
    exact ⟨true, k.1, k.2, rfl, by omega, hQ⟩
  subst hN
  have hSt : ∃ W : List Sl → Sto → Prop, ∀ env M, W env M ↔ ∃ ws : List Str, env = [Sl.u, Sl.d .pool, Sl.d (.lst (ks.map kdT)), Sl.d (.lst (ks.map kdP)), Sl.d (.lst (ws.map .str)), Sl.u, Sl.u, Sl.u, Sl.u, Sl.u] ∧ ws.length ≤ 450 ∧ ∀ x ∈ ws, WdS x := ⟨_, fun _ _ => Iff.rfl⟩
  obtain ⟨W, hW⟩ := hSt
  refine ⟨W, ?_, fun env M w => ?_⟩
  · walk_at "wq"
    refine draw (by omega) (by omega) fun v _ _ => ?_
    walk_at "wq"
    refine twoD (fun _ => ⟨ks, rfl, kok, fun ws lw hw => (hW _ _).mpr ⟨ws, rfl, lw, hw⟩⟩) (fun _ => ⟨ks, rfl, kok, fun cs co pa => ?_⟩)
    have pb := pa.b kok
    refine ⟨cs, co, rfl, ⟨by have := pb.lw; omega, pb.cnsm⟩, ks, polW cs co, rfl, ⟨kok, by have := pb.lw; omega, pol_wds kok pa⟩, fun ws lw hw => (hW _ _).mpr ⟨ws, rfl, lw, hw⟩⟩
  obtain ⟨ws0, rfl, lw0, hw0⟩ := (hW _ _).mp w
  clear w
  refine ⟨W, ?_, fun env M w => ?_⟩
  · walk_at "wq"
    rw [List.length_map]
    refine twoD (fun e1 => ?_) (fun _ => (hW _ _).mpr ⟨ws0, rfl, lw0, hw0⟩)
    have e1 : (ws0.length : Int) = 1 := e1
    obtain ⟨x0, rfl⟩ : ∃ x0, ws0 = [x0] := List.length_eq_one_iff.mp (by omega)
    refine oa_at (j := 0) rfl rfl ?_
    walk_at "wq"
    exact twoD (fun _ => (hW _ _).mpr ⟨[], rfl, Nat.zero_le _, fun _ h => nomatch h⟩) (fun _ => (hW _ _).mpr ⟨[x0], rfl, lw0, hw0⟩)
  clear hw0 lw0 ws0
  obtain ⟨ws, rfl, lw, hw⟩ := (hW _ _).mp w
  clear w hW W
  obtain ⟨wp, sp, ew, wor, lp, hp⟩ := split_of (ks := ks) lw hw
  refine zseqG fun N hN => ?_
  walk_at "wq"
  refine ⟨ks, ws, rfl, ⟨kok, by omega, fun x hx => ⟨Nat.le_trans (hw x hx).1.1 (by decide), (hw x hx).2⟩⟩, ?_⟩
  have js := sum_le_mul (f := fun x : Str => x.length) (m := 100) (xs := ws) fun x hx => (hw x hx).1.1
  have jl : (ws.map (·.length)).sum + ws.length * (Str.ofString " ").length ≤ 16777216 := by
    rw [show (Str.ofString " ").length = 1 by decide]
    omega
  subst hN
  have hSt : ∃ W : List Sl → Sto → Prop, ∀ env M, W env M ↔ env = [Sl.u, Sl.d .pool, Sl.d (.lst (ks.map kdT)), Sl.d (.lst (ks.map kdP)), Sl.d (.lst (ws.map .str)), Sl.d .non, Sl.d (.str (Txt.join " " ws)), Sl.u, Sl.u, Sl.u] ∧ wrongO ks ws = none := ⟨_, fun _ _ => Iff.rfl⟩
  obtain ⟨W, hW⟩ := hSt
  refine ⟨W, ?_, fun env M w => ?_⟩
  · unfold zTry
    walk_at "wq"
    rw [strsD_map]
    refine ⟨jl, ?_⟩
    refine ⟨_, ks, wp, rfl, ⟨kok, jn_len5 lw hw, sp, lp, hp⟩, fun m st M' => ?_, fun cs co M' pa epol hfin => ?_⟩
    · have wm : wrongO ks ws = some m := ew ▸ st.wrong
      unfold zTryX
      refine ⟨by simp, fun a dd ha hdd => ?_⟩
      refine zseqG fun N hN => ?_
      walk_at "wq"
      simp only [bIs]
      walk_at "wq"
      simp only [xQ]
      refine ⟨trivial, trivial, ?_⟩
      rw [wm]
      show N [Sl.u, Sl.d .pool, Sl.d (.lst (ks.map kdT)), Sl.d (.lst (ks.map kdP)), Sl.d (.lst (ws.map .str)), Sl.d (.int m), Sl.u, Sl.d (.cell a), Sl.u, Sl.u] _
      subst hN
      walk_at "wq"
      simp only [bWhat]
      walk_at "wq"
      simp only [xQ]
      refine ⟨trivial, ?_⟩
      refine ⟨.int m, .int m, rfl, rfl, trivial, fun b hb => by rw [hb.mpr rfl]⟩
    · obtain ⟨s', rn, hf⟩ := hfin
      have wn : wrongO ks ws = none := ew ▸ rn.right (List.getElem?_eq_none (Nat.le_refl _)) hf
      have epw : polW cs co = ws := epol.trans (wor.resolve_right fun z => z wn)
      have pb := pa.b kok
      walk_at "wq"
      refine ⟨cs, co, rfl, ⟨by have := pb.lw; omega, fun x hx => by have := (pb.hw x hx).1; omega, pb.cnsm⟩, ?_⟩
      rw [epw, wn]
      exact (hW _ _).mpr ⟨rfl, wn⟩
  obtain ⟨rfl, wn⟩ := (hW _ _).mp w
  walk_at "wq"
  rw [strsD_map]
  refine ⟨jl, ?_⟩
  exact same_end rfl (okS_str _ _) rfl rfl
end
theorem cal_weak {P : Program} {w : World} {K : PySem.W.Frag} {mg : Str → Option Value} {base : Heap} {k : Nat} {x : Str} {sp sp' : Sp} {dvs : List V} (h : ∀ vs H Q E, sp' vs H Q E → sp vs H Q E) (C : C8.Cal P w K mg base k x sp dvs) : C8.Cal P w K mg base k x sp' dvs := by
  obtain ⟨f, fd, ps, ds, F, a, b, c, d⟩ := C.ex
  exact ⟨⟨f, fd, ps, ds, fn_weak h F, a, b, c, d⟩⟩
/-- an error of the class at S is what «except D» names -/
theorem exm_of {K : PySem.W.Frag} {S D : Addr} (h1 : PySem.W.subIn K (.ref D) (.type "BaseException") = some true) (h2 : PySem.W.isClsIn K D = true) (h3 : PySem.W.typeIn K (.ref D) = some (.type "type")) (h4 : PySem.W.subIn K (.ref S) (.ref D) = some true) :
    PySem.W.exmOne K (.ref S) (.ref D) = some true := by
  have e1 : (PySem.W.subIn K (.ref D) (.type "BaseException") == some true) = true := by rw [h1] <;> rfl
  have h2' : (PySem.W.clsIn K D).isSome = true := h2
  have e2 : ((PySem.W.clsIn K D).isSome && PySem.W.typeIn K (.ref D) == some (.type "type")) = true := by rw [h2', h3] <;> rfl
  show (if (PySem.W.subIn K (.ref D) (.type "BaseException") == some true) = true then (if ((PySem.W.clsIn K D).isSome && PySem.W.typeIn K (.ref D) == some (.type "type")) = true then PySem.W.subIn K (.ref S) (.ref D) else none) else none) = some true
  rw [if_pos e1, if_pos e2]
  exact h4
theorem beq_ref {a b : Addr} : (Value.ref a == Value.ref b) = decide (a = b) := by
  by_cases h : a = b
  · subst h
    rw [decide_eq_true rfl]
    exact beq_self_eq_true (Value.ref a)
  · rw [decide_eq_false h]
    exact beq_eq_false_iff_ne.mpr fun z => h (by cases z; rfl)
theorem kit_self {K : PySem.W.Frag} {S : Addr} : PySem.W.kitOne K (.ref S) (.ref S) = some true := by
  unfold PySem.W.kitOne
  rw [beq_ref, decide_eq_true rfl]
  rfl
theorem kit_no {K : PySem.W.Frag} {S D : Addr} (h1 : PySem.W.isClsIn K D = true) (h2 : PySem.W.typeIn K (.ref D) = some (.type "type")) (h3 : PySem.W.subIn K (.ref S) (.ref D) = some false) (h4 : PySem.W.subIn K (.ref S) (.ref S) = some true) :
    PySem.W.kitOne K (.ref S) (.ref D) = some false := by
  have ne : ¬ S = D := fun z => by
    subst z
    rw [h3] at h4
    cases h4
  have h1' : (PySem.W.clsIn K D).isSome = true := h1
  have e2 : ((PySem.W.clsIn K D).isSome && PySem.W.typeIn K (.ref D) == some (.type "type")) = true := by rw [h1', h2] <;> rfl
  unfold PySem.W.kitOne PySem.W.kitCls
  rw [beq_ref, decide_eq_false ne, if_neg Bool.false_ne_true]
  show (if ((PySem.W.clsIn K D).isSome && PySem.W.typeIn K (.ref D) == some (.type "type")) = true then PySem.W.subIn K (.ref S) (.ref D) else none) = some false
  rw [if_pos e2]
  exact h3
theorem valsB_ok : ∀ {ys : List Str} {us : List Value}, HM.valsB ys us = true → Vals (ys.map V.str) us
  | [], [], _ => .nil
  | y :: ys, .str z t :: us, h => by
    have h : (y == z && HM.valsB ys us) = true := h
    rw [Bool.and_eq_true, beq_iff_eq] at h
    obtain ⟨h1, h2⟩ := h
    subst h1
    exact .cons ⟨t, rfl⟩ (valsB_ok h2)
theorem gtB_ok {K : PySem.W.Frag} {a : Addr} {ys : List Str} (h : HM.gtB K a ys = true) : GTup K a ys := by
  intro H
  unfold HM.gtB at h
  split at h
  · rename_i o e
    split at h
    · rename_i n its m e1 e2
      rw [Bool.and_eq_true, Bool.and_eq_true, beq_iff_eq] at h
      obtain ⟨rfl, h1, h2⟩ := h
      exact .inr ⟨o, its, m, e, e1, e2, of_decide_eq_true h1, valsB_ok h2⟩
    · cases h
  · cases h
theorem mak_weak {P : Program} {w : World} {K : PySem.W.Frag} {mg : Str → Option Value} {base : Heap} {ca : Nat → Addr} {k c : Nat} {x : Str} {C : Addr} {asp asp' : ASpI} {dvs : List V} (h : ∀ ds P, asp' ds P → asp ds P) (M : C8.Mak P w K mg base k x C (toSpI K ca c asp) dvs) : C8.Mak P w K mg base k x C (toSpI K ca c asp') dvs := by
  obtain ⟨f, fd, ps, ds, a, F, b, c, d⟩ := M.ex
  exact ⟨⟨f, fd, ps, ds, a, fn_weak (fun vs H Q E ⟨po, F, H1, x, dx, ws, ds, P, e1, e2, e3, e4, e5, e6, e7, q, r⟩ => ⟨po, F, H1, x, dx, ws, ds, P, e1, e2, e3, e4, e5, e6, e7, h ds P q, r⟩) F, b, c, d⟩⟩
def caT (C3 CPl CRd CT : Addr) : Nat → Addr := fun k => if k = 3 then C3 else if k = 15 then CRd else if k = 14 then CT else CPl
theorem kit_cons {K : PySem.W.Frag} {t c : Value} {r : List Value} (h : PySem.W.kitOne K t c = some false) (k : PySem.W.kitAny K t r = some false) : PySem.W.kitAny K t (c :: r) = some false := by
  unfold PySem.W.kitAny
  rw [h]
  exact k
theorem fn_ty {K : PySem.W.Frag} {f : Addr} (h : PySem.W.isFn K (.ref f) = true) : PySem.W.typeIn K (.ref f) = some (.type "function") := by
  unfold PySem.W.isFn at h
  exact eq_of_beq h
abbrev s_BadText___init__ : Stmt := inClass (top 6) 0
theorem sc_BadText___init__ : FnScope ["self", "at"] ["self", "at"] (defScope s_BadText___init__) := ⟨rfl, rfl, rfl, by decide +kernel, rfl, by decide +kernel, by decide +kernel⟩
theorem ok_x_BadText {P : Program} {w : World} {K : PySem.W.Frag} {mg : Str → Option Value} {base : Heap} {C f : Addr} {fd : FuncData} (F : Fun K "__init__" "BadText.__init__" s_BadText___init__ f fd) (T : OexC K C) (hno : PySem.W.findIn K (.ref C) "at" = some none) : FnOk P w K mg base CX0 1 f fd ["self", "at"] (spXI K C "at") := by
  refine F.ok sc_BadText___init__ (fun vs H Q E h => by obtain ⟨a, v, rfl, _⟩ := h; rfl) (fun cdv A outer s H vs Q E hr h => ⟨_, pss_one (ps_ost (pv 0) (pv 1)), ?_⟩)
  obtain ⟨a, v, rfl, ha, q⟩ := h
  exact ⟨_, rfl, _, rfl, a, C, rfl, T, hno, .inl ⟨ha, fun dx h1 h2 => q dx h1 h2⟩⟩
set_option maxHeartbeats 0 in
theorem all_mk {l : PySem.W.OpenLaw} {w : World} {K : PySem.W.Frag} {h : Heap} {mg : Str → Option Value} {fa f0 f1 f2 f3 f4 f5 f6 f7 f8 f9 f10 f11 f12 f13 f14 f15 f16 f17 f18 f19 f20 f21 f22 f23 f24 f25 f26 f27 f28 f29 f30 f31 f32 f33 f34 f35 f36 f37 f38 : Addr} {C3 CPl CRd CT gKW gCW CV CG CO CQ CR CU : Addr} {tA tB tC tD tE tF : Tok} {Qnm Qq : Str} {QN : Addr} {Qbs Qbm Qsub : List Value} {Qsn : List Str} {Qab : Bool} {Qcol : Option Bool} {Qdd : Option Addr} {Qk0 Qk1 Qk2 Qk3 Qk5 : Option Value} (X : K.In h) (G : h.Ns mainGlobals mg) (hfa : mg "law" = some (.ref fa))
    {od0 an0 od1 an1 od2 an2 od3 an3 od4 an4 od5 an5 od6 an6 od7 an7 od8 an8 od9 an9 od10 an10 od11 an11 od12 an12 od13 an13 od14 an14 od15 an15 od16 an16 od17 an17 od18 an18 od19 an19 od20 an20 od21 an21 od22 an22 od23 an23 od24 an24 od25 an25 od26 an26 od27 an27 od28 an28 od29 an29 od30 an30 od31 an31 od32 an32 od33 an33 od34 an34 od35 an35 od36 an36 od37 an37 od38 an38 : Option Addr} {sl0 sl1 sl2 sl3 sl4 sl5 sl6 sl7 sl8 sl9 sl10 sl11 sl12 sl13 sl14 sl15 sl16 sl17 sl18 sl19 sl20 sl21 sl22 sl23 sl24 sl25 sl26 sl27 sl28 sl29 sl30 sl31 sl32 sl33 sl34 sl35 sl36 sl37 sl38 : Array (Option Value)} {oc0 kV0 dc0 pm0 cd0 ct0 oc1 kV1 dc1 pm1 cd1 ct1 oc2 kV2 dc2 pm2 cd2 ct2 oc3 kV3 dc3 pm3 cd3 ct3 oc4 kV4 dc4 pm4 cd4 ct4 oc5 kV5 dc5 pm5 cd5 ct5 oc6 kV6 dc6 pm6 cd6 ct6 oc7 kV7 dc7 pm7 cd7 ct7 oc8 kV8 dc8 pm8 cd8 ct8 oc9 kV9 dc9 pm9 cd9 ct9 oc10 kV10 dc10 pm10 cd10 ct10 oc11 kV11 dc11 pm11 cd11 ct11 oc12 kV12 dc12 pm12 cd12 ct12 oc13 kV13 dc13 pm13 cd13 ct13 oc14 kV14 dc14 pm14 cd14 ct14 oc15 kV15 dc15 pm15 cd15 ct15 oc16 kV16 dc16 pm16 cd16 ct16 oc17 kV17 dc17 pm17 cd17 ct17 oc18 kV18 dc18 pm18 cd18 ct18 oc19 kV19 dc19 pm19 cd19 ct19 oc20 kV20 dc20 pm20 cd20 ct20 oc21 kV21 dc21 pm21 cd21 ct21 oc22 kV22 dc22 pm22 cd22 ct22 oc23 kV23 dc23 pm23 cd23 ct23 oc24 kV24 dc24 pm24 cd24 ct24 oc25 kV25 dc25 pm25 cd25 ct25 oc26 kV26 dc26 pm26 cd26 ct26 oc27 kV27 dc27 pm27 cd27 ct27 oc28 kV28 dc28 pm28 cd28 ct28 oc29 kV29 dc29 pm29 cd29 ct29 oc30 kV30 dc30 pm30 cd30 ct30 oc31 kV31 dc31 pm31 cd31 ct31 oc32 kV32 dc32 pm32 cd32 ct32 oc33 kV33 dc33 pm33 cd33 ct33 oc34 kV34 dc34 pm34 cd34 ct34 oc35 kV35 dc35 pm35 cd35 ct35 oc36 kV36 dc36 pm36 cd36 ct36 oc37 kV37 dc37 pm37 cd37 ct37 oc38 kV38 dc38 pm38 cd38 ct38 : Value}
    (a_C3 : PySem.W.nsIn K mainGlobals "Kind" = some (some (.ref C3)))
    (pg_C3 : PySem.W.plainGet K C3 Str.empty = true)
    (hd_C3 : PySem.W.hasDictIn K C3 = true)
    (po_C3 : PySem.W.plainOver K C3 = true)
    (sa_C3 : PySem.W.findIn K (.ref C3) "__setattr__" = some (some (.builtin "object.__setattr__")))
    (mk_C3 : PySem.W.makesIn K C3 = true)
    (kc_C3 : PySem.W.keepIn K (.ref C3) = true)
    (nC3name : PySem.W.findIn K (.ref C3) "name" = some none)
    (nC3fields : PySem.W.findIn K (.ref C3) "fields" = some none)
    (a_CPl : PySem.W.nsIn K mainGlobals "Policy" = some (some (.ref CPl)))
    (pg_CPl : PySem.W.plainGet K CPl Str.empty = true)
    (hd_CPl : PySem.W.hasDictIn K CPl = true)
    (po_CPl : PySem.W.plainOver K CPl = true)
    (sa_CPl : PySem.W.findIn K (.ref CPl) "__setattr__" = some (some (.builtin "object.__setattr__")))
    (mk_CPl : PySem.W.makesIn K CPl = true)
    (kc_CPl : PySem.W.keepIn K (.ref CPl) = true)
    (nCPlcards : PySem.W.findIn K (.ref CPl) "cards" = some none)
    (nCPlconditions : PySem.W.findIn K (.ref CPl) "conditions" = some none)
    (a_CRd : PySem.W.nsIn K mainGlobals "Reader" = some (some (.ref CRd)))
    (pg_CRd : PySem.W.plainGet K CRd Str.empty = true)
    (hd_CRd : PySem.W.hasDictIn K CRd = true)
    (po_CRd : PySem.W.plainOver K CRd = true)
    (sa_CRd : PySem.W.findIn K (.ref CRd) "__setattr__" = some (some (.builtin "object.__setattr__")))
    (mk_CRd : PySem.W.makesIn K CRd = true)
    (kc_CRd : PySem.W.keepIn K (.ref CRd) = true)
    (nCRdwords : PySem.W.findIn K (.ref CRd) "words" = some none)
    (nCRdat : PySem.W.findIn K (.ref CRd) "at" = some none)
    (hn1 : PySem.W.specialIn K (.builtin "object.__class__") "__get__" = some (some (.builtin "getset_descriptor.__get__")))
    (ht1 : PySem.W.takesIn K (.builtin "object.__class__") = some true)
    (gA : PySem.W.nsIn K mainGlobals "LONGEST_NAME" = some (some (.int 8 tA)))
    (gB : PySem.W.nsIn K mainGlobals "MOST_CARDS" = some (some (.int 3 tB)))
    (gC : PySem.W.nsIn K mainGlobals "MOST_ISSUERS" = some (some (.int 3 tC)))
    (gD : PySem.W.nsIn K mainGlobals "MOST_CONDITIONS" = some (some (.int 6 tD)))
    (gE : PySem.W.nsIn K mainGlobals "FIRST_TOO_LONG" = some (some (.int 100 tE)))
    (gF : PySem.W.nsIn K mainGlobals "LETTERS" = some (some (.str "abcdefghijklmnopqrstuvwxyz" tF)))
    (a_gKW : PySem.W.nsIn K mainGlobals "KEY_WORDS" = some (some (.ref gKW)))
    (a_gCW : PySem.W.nsIn K mainGlobals "CONDITION_WORDS" = some (some (.ref gCW)))
    (h_gKW : HM.gtB K gKW kwS = true)
    (h_gCW : HM.gtB K gCW cwS = true)
    (a_CT : PySem.W.nsIn K mainGlobals "BadText" = some (some (.ref CT)))
    (a_CV : PySem.W.nsIn K mainGlobals "VouchError" = some (some (.ref CV)))
    (a_CG : PySem.W.nsIn K mainGlobals "BadGroup" = some (some (.ref CG)))
    (a_CO : PySem.W.nsIn K mainGlobals "BadOpening" = some (some (.ref CO)))
    (a_CQ : PySem.W.nsIn K mainGlobals "BadQuestion" = some (some (.ref CQ)))
    (a_CR : PySem.W.nsIn K mainGlobals "BadRequest" = some (some (.ref CR)))
    (a_CU : PySem.W.nsIn K mainGlobals "BadTurn" = some (some (.ref CU)))
    (Qlk : K.lookup CT = some (excClassObj Qnm Qq CT QN Qbs Qbm true Qsn Qsub Qab Qcol Qdd Qk0 Qk1 Qk2 Qk3 Qk5 "ValueError.__new__"))
    (Qrf : PySem.HandSPX.refsVE Qbm = true)
    (Qsa : PySem.W.findIn K (.ref CT) "__setattr__" = some (some (.builtin "object.__setattr__")))
    (Qty : PySem.W.typeIn K (.ref CT) = some (.type "type"))
    (Qkc : PySem.W.keepIn K (.ref CT) = true)
    (Qwh : PySem.W.findIn K (.ref CT) "at" = some none)
    (Qbe : PySem.W.subIn K (.ref CT) (.type "BaseException") = some true)
    (Qga : PySem.W.findIn K (.ref CT) "__getattribute__" = some (some (.builtin "BaseException.__getattribute__")))
    (Qgg : PySem.W.findIn K (.ref CT) "__getattr__" = some none)
    (Qhd : PySem.W.hasDictIn K CT = true)
    (Qha : PySem.W.findIn K (.ref CT) "__class__" = some (some (.builtin "object.__class__")))
    (Qhm : PySem.W.mroIn K CT (.type "object") = some true)
    (bV : PySem.W.subIn K (.ref CV) (.type "BaseException") = some true)
    (iV : PySem.W.isClsIn K CV = true)
    (yV : PySem.W.typeIn K (.ref CV) = some (.type "type"))
    (zV : PySem.W.subIn K (.ref CT) (.ref CV) = some true)
    (zQ : PySem.W.subIn K (.ref CT) (.ref CT) = some true)
    (iG : PySem.W.isClsIn K CG = true)
    (yG : PySem.W.typeIn K (.ref CG) = some (.type "type"))
    (zG : PySem.W.subIn K (.ref CT) (.ref CG) = some false)
    (iO : PySem.W.isClsIn K CO = true)
    (yO : PySem.W.typeIn K (.ref CO) = some (.type "type"))
    (zO : PySem.W.subIn K (.ref CT) (.ref CO) = some false)
    (iS : PySem.W.isClsIn K CQ = true)
    (yS : PySem.W.typeIn K (.ref CQ) = some (.type "type"))
    (zS : PySem.W.subIn K (.ref CT) (.ref CQ) = some false)
    (iR : PySem.W.isClsIn K CR = true)
    (yR : PySem.W.typeIn K (.ref CR) = some (.type "type"))
    (zR : PySem.W.subIn K (.ref CT) (.ref CR) = some false)
    (iU : PySem.W.isClsIn K CU = true)
    (yU : PySem.W.typeIn K (.ref CU) = some (.type "type"))
    (zU : PySem.W.subIn K (.ref CT) (.ref CU) = some false)
    (a0 : PySem.W.findIn K (.ref C3) "__init__" = some (some (.ref f0))) (i0 : PySem.W.isFn K (.ref f0) = true)
    (l0 : K.lookup f0 = some ⟨oc0, od0, .func (PySem.W.fnOf "__init__" "Kind.__init__" (defArgs s_Kind___init__) (defBody s_Kind___init__) (defScope s_Kind___init__) .none kV0 dc0 pm0 an0 cd0 ct0), sl0⟩) (c0 : PySem.W.codeIn K cd0 "Kind.__init__" = true) (k0 : PySem.W.keepIn K (.ref f0) = true)
    (a1 : PySem.W.nsIn K mainGlobals "_kept" = some (some (.ref f1)))
    (l1 : K.lookup f1 = some ⟨oc1, od1, .func (PySem.W.fnOf "_kept" "_kept" (defArgs s__kept) (defBody s__kept) (defScope s__kept) .none kV1 dc1 pm1 an1 cd1 ct1), sl1⟩) (c1 : PySem.W.codeIn K cd1 "_kept" = true) (k1 : PySem.W.keepIn K (.ref f1) = true)
    (a2 : PySem.W.findIn K (.ref CPl) "__init__" = some (some (.ref f2))) (i2 : PySem.W.isFn K (.ref f2) = true)
    (l2 : K.lookup f2 = some ⟨oc2, od2, .func (PySem.W.fnOf "__init__" "Policy.__init__" (defArgs s_Policy___init__) (defBody s_Policy___init__) (defScope s_Policy___init__) .none kV2 dc2 pm2 an2 cd2 ct2), sl2⟩) (c2 : PySem.W.codeIn K cd2 "Policy.__init__" = true) (k2 : PySem.W.keepIn K (.ref f2) = true)
    (a3 : PySem.W.nsIn K mainGlobals "_is_name" = some (some (.ref f3)))
    (l3 : K.lookup f3 = some ⟨oc3, od3, .func (PySem.W.fnOf "_is_name" "_is_name" (defArgs s__is_name) (defBody s__is_name) (defScope s__is_name) .none kV3 dc3 pm3 an3 cd3 ct3), sl3⟩) (c3 : PySem.W.codeIn K cd3 "_is_name" = true) (k3 : PySem.W.keepIn K (.ref f3) = true)
    (a4 : PySem.W.findIn K (.ref CRd) "__init__" = some (some (.ref f4))) (i4 : PySem.W.isFn K (.ref f4) = true)
    (l4 : K.lookup f4 = some ⟨oc4, od4, .func (PySem.W.fnOf "__init__" "Reader.__init__" (defArgs s_Reader___init__) (defBody s_Reader___init__) (defScope s_Reader___init__) .none kV4 dc4 pm4 an4 cd4 ct4), sl4⟩) (c4 : PySem.W.codeIn K cd4 "Reader.__init__" = true) (k4 : PySem.W.keepIn K (.ref f4) = true)
    (a5 : PySem.W.findIn K (.ref CRd) "ahead" = some (some (.ref f5))) (i5 : PySem.W.isFn K (.ref f5) = true)
    (l5 : K.lookup f5 = some ⟨oc5, od5, .func (PySem.W.fnOf "ahead" "Reader.ahead" (defArgs s_Reader_ahead) (defBody s_Reader_ahead) (defScope s_Reader_ahead) .none kV5 dc5 pm5 an5 cd5 ct5), sl5⟩) (c5 : PySem.W.codeIn K cd5 "Reader.ahead" = true) (k5 : PySem.W.keepIn K (.ref f5) = true)
    (a6 : PySem.W.findIn K (.ref CRd) "take" = some (some (.ref f6))) (i6 : PySem.W.isFn K (.ref f6) = true)
    (l6 : K.lookup f6 = some ⟨oc6, od6, .func (PySem.W.fnOf "take" "Reader.take" (defArgs s_Reader_take) (defBody s_Reader_take) (defScope s_Reader_take) .none kV6 dc6 pm6 an6 cd6 ct6), sl6⟩) (c6 : PySem.W.codeIn K cd6 "Reader.take" = true) (k6 : PySem.W.keepIn K (.ref f6) = true)
    (a7 : PySem.W.findIn K (.ref CRd) "take_name" = some (some (.ref f7))) (i7 : PySem.W.isFn K (.ref f7) = true)
    (l7 : K.lookup f7 = some ⟨oc7, od7, .func (PySem.W.fnOf "take_name" "Reader.take_name" (defArgs s_Reader_take_name) (defBody s_Reader_take_name) (defScope s_Reader_take_name) .none kV7 dc7 pm7 an7 cd7 ct7), sl7⟩) (c7 : PySem.W.codeIn K cd7 "Reader.take_name" = true) (k7 : PySem.W.keepIn K (.ref f7) = true)
    (a8 : PySem.W.nsIn K mainGlobals "_values_of" = some (some (.ref f8)))
    (l8 : K.lookup f8 = some ⟨oc8, od8, .func (PySem.W.fnOf "_values_of" "_values_of" (defArgs s__values_of) (defBody s__values_of) (defScope s__values_of) .none kV8 dc8 pm8 an8 cd8 ct8), sl8⟩) (c8 : PySem.W.codeIn K cd8 "_values_of" = true) (k8 : PySem.W.keepIn K (.ref f8) = true)
    (a9 : PySem.W.nsIn K mainGlobals "_sayable" = some (some (.ref f9)))
    (l9 : K.lookup f9 = some ⟨oc9, od9, .func (PySem.W.fnOf "_sayable" "_sayable" (defArgs s__sayable) (defBody s__sayable) (defScope s__sayable) .none kV9 dc9 pm9 an9 cd9 ct9), sl9⟩) (c9 : PySem.W.codeIn K cd9 "_sayable" = true) (k9 : PySem.W.keepIn K (.ref f9) = true)
    (a10 : PySem.W.nsIn K mainGlobals "_written" = some (some (.ref f10)))
    (l10 : K.lookup f10 = some ⟨oc10, od10, .func (PySem.W.fnOf "_written" "_written" (defArgs s__written) (defBody s__written) (defScope s__written) .none kV10 dc10 pm10 an10 cd10 ct10), sl10⟩) (c10 : PySem.W.codeIn K cd10 "_written" = true) (k10 : PySem.W.keepIn K (.ref f10) = true)
    (a11 : PySem.W.nsIn K mainGlobals "_read_value" = some (some (.ref f11)))
    (l11 : K.lookup f11 = some ⟨oc11, od11, .func (PySem.W.fnOf "_read_value" "_read_value" (defArgs s__read_value) (defBody s__read_value) (defScope s__read_value) .none kV11 dc11 pm11 an11 cd11 ct11), sl11⟩) (c11 : PySem.W.codeIn K cd11 "_read_value" = true) (k11 : PySem.W.keepIn K (.ref f11) = true)
    (a12 : PySem.W.nsIn K mainGlobals "_read_number" = some (some (.ref f12)))
    (l12 : K.lookup f12 = some ⟨oc12, od12, .func (PySem.W.fnOf "_read_number" "_read_number" (defArgs s__read_number) (defBody s__read_number) (defScope s__read_number) .none kV12 dc12 pm12 an12 cd12 ct12), sl12⟩) (c12 : PySem.W.codeIn K cd12 "_read_number" = true) (k12 : PySem.W.keepIn K (.ref f12) = true)
    (a13 : PySem.W.nsIn K mainGlobals "_read_numbers" = some (some (.ref f13)))
    (l13 : K.lookup f13 = some ⟨oc13, od13, .func (PySem.W.fnOf "_read_numbers" "_read_numbers" (defArgs s__read_numbers) (defBody s__read_numbers) (defScope s__read_numbers) .none kV13 dc13 pm13 an13 cd13 ct13), sl13⟩) (c13 : PySem.W.codeIn K cd13 "_read_numbers" = true) (k13 : PySem.W.keepIn K (.ref f13) = true)
    (a14 : PySem.W.nsIn K mainGlobals "_read_condition" = some (some (.ref f14)))
    (l14 : K.lookup f14 = some ⟨oc14, od14, .func (PySem.W.fnOf "_read_condition" "_read_condition" (defArgs s__read_condition) (defBody s__read_condition) (defScope s__read_condition) .none kV14 dc14 pm14 an14 cd14 ct14), sl14⟩) (c14 : PySem.W.codeIn K cd14 "_read_condition" = true) (k14 : PySem.W.keepIn K (.ref f14) = true)
    (a15 : PySem.W.nsIn K mainGlobals "_read_card" = some (some (.ref f15)))
    (l15 : K.lookup f15 = some ⟨oc15, od15, .func (PySem.W.fnOf "_read_card" "_read_card" (defArgs s__read_card) (defBody s__read_card) (defScope s__read_card) .none kV15 dc15 pm15 an15 cd15 ct15), sl15⟩) (c15 : PySem.W.codeIn K cd15 "_read_card" = true) (k15 : PySem.W.keepIn K (.ref f15) = true)
    (a16 : PySem.W.nsIn K mainGlobals "read_policy" = some (some (.ref f16)))
    (l16 : K.lookup f16 = some ⟨oc16, od16, .func (PySem.W.fnOf "read_policy" "read_policy" (defArgs s_read_policy) (defBody s_read_policy) (defScope s_read_policy) .none kV16 dc16 pm16 an16 cd16 ct16), sl16⟩) (c16 : PySem.W.codeIn K cd16 "read_policy" = true) (k16 : PySem.W.keepIn K (.ref f16) = true)
    (a17 : PySem.W.nsIn K mainGlobals "policy_text" = some (some (.ref f17)))
    (l17 : K.lookup f17 = some ⟨oc17, od17, .func (PySem.W.fnOf "policy_text" "policy_text" (defArgs s_policy_text) (defBody s_policy_text) (defScope s_policy_text) .none kV17 dc17 pm17 an17 cd17 ct17), sl17⟩) (c17 : PySem.W.codeIn K cd17 "policy_text" = true) (k17 : PySem.W.keepIn K (.ref f17) = true)
    (a18 : PySem.W.findIn K (.ref CT) "__init__" = some (some (.ref f18))) (i18 : PySem.W.isFn K (.ref f18) = true)
    (l18 : K.lookup f18 = some ⟨oc18, od18, .func (PySem.W.fnOf "__init__" "BadText.__init__" (defArgs s_BadText___init__) (defBody s_BadText___init__) (defScope s_BadText___init__) .none kV18 dc18 pm18 an18 cd18 ct18), sl18⟩) (c18 : PySem.W.codeIn K cd18 "BadText.__init__" = true) (k18 : PySem.W.keepIn K (.ref f18) = true)
    (a19 : PySem.W.nsIn K mainGlobals "_law_pool" = some (some (.ref f19)))
    (l19 : K.lookup f19 = some ⟨oc19, od19, .func (PySem.W.fnOf "_law_pool" "_law_pool" (defArgs s__law_pool) (defBody s__law_pool) (defScope s__law_pool) .none kV19 dc19 pm19 an19 cd19 ct19), sl19⟩) (c19 : PySem.W.codeIn K cd19 "_law_pool" = true) (k19 : PySem.W.keepIn K (.ref f19) = true)
    (a20 : PySem.W.nsIn K mainGlobals "_law_draw" = some (some (.ref f20)))
    (l20 : K.lookup f20 = some ⟨oc20, od20, .func (PySem.W.fnOf "_law_draw" "_law_draw" (defArgs s__law_draw) (defBody s__law_draw) (defScope s__law_draw) .none kV20 dc20 pm20 an20 cd20 ct20), sl20⟩) (c20 : PySem.W.codeIn K cd20 "_law_draw" = true) (k20 : PySem.W.keepIn K (.ref f20) = true)
    (a21 : PySem.W.nsIn K mainGlobals "_law_same" = some (some (.ref f21)))
    (l21 : K.lookup f21 = some ⟨oc21, od21, .func (PySem.W.fnOf "_law_same" "_law_same" (defArgs s__law_same) (defBody s__law_same) (defScope s__law_same) .none kV21 dc21 pm21 an21 cd21 ct21), sl21⟩) (c21 : PySem.W.codeIn K cd21 "_law_same" = true) (k21 : PySem.W.keepIn K (.ref f21) = true)
    (a22 : PySem.W.nsIn K mainGlobals "_law_name" = some (some (.ref f22)))
    (l22 : K.lookup f22 = some ⟨oc22, od22, .func (PySem.W.fnOf "_law_name" "_law_name" (defArgs s__law_name) (defBody s__law_name) (defScope s__law_name) .none kV22 dc22 pm22 an22 cd22 ct22), sl22⟩) (c22 : PySem.W.codeIn K cd22 "_law_name" = true) (k22 : PySem.W.keepIn K (.ref f22) = true)
    (a23 : PySem.W.nsIn K mainGlobals "_law_unlike" = some (some (.ref f23)))
    (l23 : K.lookup f23 = some ⟨oc23, od23, .func (PySem.W.fnOf "_law_unlike" "_law_unlike" (defArgs s__law_unlike) (defBody s__law_unlike) (defScope s__law_unlike) .none kV23 dc23 pm23 an23 cd23 ct23), sl23⟩) (c23 : PySem.W.codeIn K cd23 "_law_unlike" = true) (k23 : PySem.W.keepIn K (.ref f23) = true)
    (a24 : PySem.W.nsIn K mainGlobals "_law_all_kinds" = some (some (.ref f24)))
    (l24 : K.lookup f24 = some ⟨oc24, od24, .func (PySem.W.fnOf "_law_all_kinds" "_law_all_kinds" (defArgs s__law_all_kinds) (defBody s__law_all_kinds) (defScope s__law_all_kinds) .none kV24 dc24 pm24 an24 cd24 ct24), sl24⟩) (c24 : PySem.W.codeIn K cd24 "_law_all_kinds" = true) (k24 : PySem.W.keepIn K (.ref f24) = true)
    (a25 : PySem.W.nsIn K mainGlobals "_law_pairs" = some (some (.ref f25)))
    (l25 : K.lookup f25 = some ⟨oc25, od25, .func (PySem.W.fnOf "_law_pairs" "_law_pairs" (defArgs s__law_pairs) (defBody s__law_pairs) (defScope s__law_pairs) .none kV25 dc25 pm25 an25 cd25 ct25), sl25⟩) (c25 : PySem.W.codeIn K cd25 "_law_pairs" = true) (k25 : PySem.W.keepIn K (.ref f25) = true)
    (a26 : PySem.W.nsIn K mainGlobals "_law_policy" = some (some (.ref f26)))
    (l26 : K.lookup f26 = some ⟨oc26, od26, .func (PySem.W.fnOf "_law_policy" "_law_policy" (defArgs s__law_policy) (defBody s__law_policy) (defScope s__law_policy) .none kV26 dc26 pm26 an26 cd26 ct26), sl26⟩) (c26 : PySem.W.codeIn K cd26 "_law_policy" = true) (k26 : PySem.W.keepIn K (.ref f26) = true)
    (a27 : PySem.W.nsIn K mainGlobals "_law_words" = some (some (.ref f27)))
    (l27 : K.lookup f27 = some ⟨oc27, od27, .func (PySem.W.fnOf "_law_words" "_law_words" (defArgs s__law_words) (defBody s__law_words) (defScope s__law_words) .none kV27 dc27 pm27 an27 cd27 ct27), sl27⟩) (c27 : PySem.W.codeIn K cd27 "_law_words" = true) (k27 : PySem.W.keepIn K (.ref f27) = true)
    (a28 : PySem.W.nsIn K mainGlobals "_law_is_name" = some (some (.ref f28)))
    (l28 : K.lookup f28 = some ⟨oc28, od28, .func (PySem.W.fnOf "_law_is_name" "_law_is_name" (defArgs s__law_is_name) (defBody s__law_is_name) (defScope s__law_is_name) .none kV28 dc28 pm28 an28 cd28 ct28), sl28⟩) (c28 : PySem.W.codeIn K cd28 "_law_is_name" = true) (k28 : PySem.W.keepIn K (.ref f28) = true)
    (a29 : PySem.W.nsIn K mainGlobals "_law_is_number" = some (some (.ref f29)))
    (l29 : K.lookup f29 = some ⟨oc29, od29, .func (PySem.W.fnOf "_law_is_number" "_law_is_number" (defArgs s__law_is_number) (defBody s__law_is_number) (defScope s__law_is_number) .none kV29 dc29 pm29 an29 cd29 ct29), sl29⟩) (c29 : PySem.W.codeIn K cd29 "_law_is_number" = true) (k29 : PySem.W.keepIn K (.ref f29) = true)
    (a30 : PySem.W.nsIn K mainGlobals "_law_start" = some (some (.ref f30)))
    (l30 : K.lookup f30 = some ⟨oc30, od30, .func (PySem.W.fnOf "_law_start" "_law_start" (defArgs s__law_start) (defBody s__law_start) (defScope s__law_start) .none kV30 dc30 pm30 an30 cd30 ct30), sl30⟩) (c30 : PySem.W.codeIn K cd30 "_law_start" = true) (k30 : PySem.W.keepIn K (.ref f30) = true)
    (a31 : PySem.W.nsIn K mainGlobals "_law_picks" = some (some (.ref f31)))
    (l31 : K.lookup f31 = some ⟨oc31, od31, .func (PySem.W.fnOf "_law_picks" "_law_picks" (defArgs s__law_picks) (defBody s__law_picks) (defScope s__law_picks) .none kV31 dc31 pm31 an31 cd31 ct31), sl31⟩) (c31 : PySem.W.codeIn K cd31 "_law_picks" = true) (k31 : PySem.W.keepIn K (.ref f31) = true)
    (a32 : PySem.W.nsIn K mainGlobals "_law_cards" = some (some (.ref f32)))
    (l32 : K.lookup f32 = some ⟨oc32, od32, .func (PySem.W.fnOf "_law_cards" "_law_cards" (defArgs s__law_cards) (defBody s__law_cards) (defScope s__law_cards) .none kV32 dc32 pm32 an32 cd32 ct32), sl32⟩) (c32 : PySem.W.codeIn K cd32 "_law_cards" = true) (k32 : PySem.W.keepIn K (.ref f32) = true)
    (a33 : PySem.W.nsIn K mainGlobals "_law_next" = some (some (.ref f33)))
    (l33 : K.lookup f33 = some ⟨oc33, od33, .func (PySem.W.fnOf "_law_next" "_law_next" (defArgs s__law_next) (defBody s__law_next) (defScope s__law_next) .none kV33 dc33 pm33 an33 cd33 ct33), sl33⟩) (c33 : PySem.W.codeIn K cd33 "_law_next" = true) (k33 : PySem.W.keepIn K (.ref f33) = true)
    (a34 : PySem.W.nsIn K mainGlobals "_law_wrong" = some (some (.ref f34)))
    (l34 : K.lookup f34 = some ⟨oc34, od34, .func (PySem.W.fnOf "_law_wrong" "_law_wrong" (defArgs s__law_wrong) (defBody s__law_wrong) (defScope s__law_wrong) .none kV34 dc34 pm34 an34 cd34 ct34), sl34⟩) (c34 : PySem.W.codeIn K cd34 "_law_wrong" = true) (k34 : PySem.W.keepIn K (.ref f34) = true)
    (a35 : PySem.W.nsIn K mainGlobals "_law_menu" = some (some (.ref f35)))
    (l35 : K.lookup f35 = some ⟨oc35, od35, .func (PySem.W.fnOf "_law_menu" "_law_menu" (defArgs s__law_menu) (defBody s__law_menu) (defScope s__law_menu) .none kV35 dc35 pm35 an35 cd35 ct35), sl35⟩) (c35 : PySem.W.codeIn K cd35 "_law_menu" = true) (k35 : PySem.W.keepIn K (.ref f35) = true)
    (a36 : PySem.W.nsIn K mainGlobals "_law_changed" = some (some (.ref f36)))
    (l36 : K.lookup f36 = some ⟨oc36, od36, .func (PySem.W.fnOf "_law_changed" "_law_changed" (defArgs s__law_changed) (defBody s__law_changed) (defScope s__law_changed) .none kV36 dc36 pm36 an36 cd36 ct36), sl36⟩) (c36 : PySem.W.codeIn K cd36 "_law_changed" = true) (k36 : PySem.W.keepIn K (.ref f36) = true)
    (a37 : PySem.W.nsIn K mainGlobals "_law_walked" = some (some (.ref f37)))
    (l37 : K.lookup f37 = some ⟨oc37, od37, .func (PySem.W.fnOf "_law_walked" "_law_walked" (defArgs s__law_walked) (defBody s__law_walked) (defScope s__law_walked) .none kV37 dc37 pm37 an37 cd37 ct37), sl37⟩) (c37 : PySem.W.codeIn K cd37 "_law_walked" = true) (k37 : PySem.W.keepIn K (.ref f37) = true)
    (a38 : PySem.W.nsIn K mainGlobals "law" = some (some (.ref f38)))
    (l38 : K.lookup f38 = some ⟨oc38, od38, .func (PySem.W.fnOf "law" "law" (defArgs s_law) (defBody s_law) (defScope s_law) .none kV38 dc38 pm38 an38 cd38 ct38), sl38⟩) (c38 : PySem.W.codeIn K cd38 "law" = true) (k38 : PySem.W.keepIn K (.ref f38) = true)
    (z_isinstance : PySem.W.nsIn K mainGlobals "isinstance" = some none)
    (z_len : PySem.W.nsIn K mainGlobals "len" = some none)
    (z_sum : PySem.W.nsIn K mainGlobals "sum" = some none)
    (z_max : PySem.W.nsIn K mainGlobals "max" = some none)
    (z_min : PySem.W.nsIn K mainGlobals "min" = some none)
    (z_abs : PySem.W.nsIn K mainGlobals "abs" = some none)
    (z_any : PySem.W.nsIn K mainGlobals "any" = some none)
    (z_all : PySem.W.nsIn K mainGlobals "all" = some none)
    (z_sorted : PySem.W.nsIn K mainGlobals "sorted" = some none)
    (z_int : PySem.W.nsIn K mainGlobals "int" = some none)
    (z_bool : PySem.W.nsIn K mainGlobals "bool" = some none)
    (z_str : PySem.W.nsIn K mainGlobals "str" = some none)
    (z_list : PySem.W.nsIn K mainGlobals "list" = some none)
    (z_tuple : PySem.W.nsIn K mainGlobals "tuple" = some none)
    (z_dict : PySem.W.nsIn K mainGlobals "dict" = some none)
    (z_range : PySem.W.nsIn K mainGlobals "range" = some none)
    (z_enumerate : PySem.W.nsIn K mainGlobals "enumerate" = some none)
    (z_zip : PySem.W.nsIn K mainGlobals "zip" = some none) :
    ∃ fd : FuncData, (∀ (s : Shared) (v : Value), BindsTo s fd ⟨[v], []⟩ [("script", v)]) ∧ ∀ base : Heap, K.In base → base.Ns mainGlobals mg → FnOk l.prog w K mg base CX0 24 fa fd ["script"] (spLaw K) := by
  have e := hfa.symm.trans (PySem.W.mg_of X G a38)
  cases e
  have B : Blt mg := ⟨PySem.W.mg_none_of X G z_isinstance, PySem.W.mg_none_of X G z_len, PySem.W.mg_none_of X G z_sum, PySem.W.mg_none_of X G z_max, PySem.W.mg_none_of X G z_min, PySem.W.mg_none_of X G z_abs, PySem.W.mg_none_of X G z_any, PySem.W.mg_none_of X G z_all, PySem.W.mg_none_of X G z_sorted, PySem.W.mg_none_of X G z_int, PySem.W.mg_none_of X G z_bool, PySem.W.mg_none_of X G z_str, PySem.W.mg_none_of X G z_list, PySem.W.mg_none_of X G z_tuple, PySem.W.mg_none_of X G z_dict, PySem.W.mg_none_of X G z_range, PySem.W.mg_none_of X G z_enumerate, PySem.W.mg_none_of X G z_zip⟩
  have F0 := fun_mk (st := s_Kind___init__) l0 c0 k0
  have b0 := F0.binds (ps := ["self", "name", "fields"]) fun _ _ _ _ _ _ us hl => match us, hl with | [_, _, _], _ => rfl
  have F1 := fun_mk (st := s__kept) l1 c1 k1
  have b1 := F1.binds (ps := ["condition"]) fun _ _ _ _ _ _ us hl => match us, hl with | [_], _ => rfl
  have m1 := PySem.W.mg_of X G a1
  have F2 := fun_mk (st := s_Policy___init__) l2 c2 k2
  have b2 := F2.binds (ps := ["self", "cards", "conditions"]) fun _ _ _ _ _ _ us hl => match us, hl with | [_, _, _], _ => rfl
  have F3 := fun_mk (st := s__is_name) l3 c3 k3
  have b3 := F3.binds (ps := ["word"]) fun _ _ _ _ _ _ us hl => match us, hl with | [_], _ => rfl
  have m3 := PySem.W.mg_of X G a3
  have F4 := fun_mk (st := s_Reader___init__) l4 c4 k4
  have b4 := F4.binds (ps := ["self", "text"]) fun _ _ _ _ _ _ us hl => match us, hl with | [_, _], _ => rfl
  have F5 := fun_mk (st := s_Reader_ahead) l5 c5 k5
  have b5 := F5.binds (ps := ["self"]) fun _ _ _ _ _ _ us hl => match us, hl with | [_], _ => rfl
  have F6 := fun_mk (st := s_Reader_take) l6 c6 k6
  have b6 := F6.binds (ps := ["self", "fitting"]) fun _ _ _ _ _ _ us hl => match us, hl with | [_, _], _ => rfl
  have F7 := fun_mk (st := s_Reader_take_name) l7 c7 k7
  have b7 := F7.binds (ps := ["self", "taken"]) fun _ _ _ _ _ _ us hl => match us, hl with | [_, _], _ => rfl
  have F8 := fun_mk (st := s__values_of) l8 c8 k8
  have b8 := F8.binds (ps := ["cards", "kinds"]) fun _ _ _ _ _ _ us hl => match us, hl with | [_, _], _ => rfl
  have m8 := PySem.W.mg_of X G a8
  have F9 := fun_mk (st := s__sayable) l9 c9 k9
  have b9 := F9.binds (ps := ["word", "values"]) fun _ _ _ _ _ _ us hl => match us, hl with | [_, _], _ => rfl
  have m9 := PySem.W.mg_of X G a9
  have F10 := fun_mk (st := s__written) l10 c10 k10
  have b10 := F10.binds (ps := ["low", "many"]) fun _ _ _ _ _ _ us hl => match us, hl with | [_, _], _ => rfl
  have m10 := PySem.W.mg_of X G a10
  have F11 := fun_mk (st := s__read_value) l11 c11 k11
  have b11 := F11.binds (ps := ["reader", "values"]) fun _ _ _ _ _ _ us hl => match us, hl with | [_, _], _ => rfl
  have m11 := PySem.W.mg_of X G a11
  have F12 := fun_mk (st := s__read_number) l12 c12 k12
  have b12 := F12.binds (ps := ["reader", "many"]) fun _ _ _ _ _ _ us hl => match us, hl with | [_, _], _ => rfl
  have m12 := PySem.W.mg_of X G a12
  have F13 := fun_mk (st := s__read_numbers) l13 c13 k13
  have b13 := F13.binds (ps := ["reader", "many"]) fun _ _ _ _ _ _ us hl => match us, hl with | [_, _], _ => rfl
  have m13 := PySem.W.mg_of X G a13
  have F14 := fun_mk (st := s__read_condition) l14 c14 k14
  have b14 := F14.binds (ps := ["reader", "values"]) fun _ _ _ _ _ _ us hl => match us, hl with | [_, _], _ => rfl
  have m14 := PySem.W.mg_of X G a14
  have F15 := fun_mk (st := s__read_card) l15 c15 k15
  have b15 := F15.binds (ps := ["reader", "kinds", "taken"]) fun _ _ _ _ _ _ us hl => match us, hl with | [_, _, _], _ => rfl
  have m15 := PySem.W.mg_of X G a15
  have F16 := fun_mk (st := s_read_policy) l16 c16 k16
  have b16 := F16.binds (ps := ["text", "kinds"]) fun _ _ _ _ _ _ us hl => match us, hl with | [_, _], _ => rfl
  have m16 := PySem.W.mg_of X G a16
  have F17 := fun_mk (st := s_policy_text) l17 c17 k17
  have b17 := F17.binds (ps := ["policy"]) fun _ _ _ _ _ _ us hl => match us, hl with | [_], _ => rfl
  have m17 := PySem.W.mg_of X G a17
  have F18 := fun_mk (st := s_BadText___init__) l18 c18 k18
  have b18 := F18.binds (ps := ["self", "at"]) fun _ _ _ _ _ _ us hl => match us, hl with | [_, _], _ => rfl
  have F19 := fun_mk (st := s__law_pool) l19 c19 k19
  have b19 := F19.binds (ps := ["script", "budget"]) fun _ _ _ _ _ _ us hl => match us, hl with | [_, _], _ => rfl
  have m19 := PySem.W.mg_of X G a19
  have F20 := fun_mk (st := s__law_draw) l20 c20 k20
  have b20 := F20.binds (ps := ["pool", "size"]) fun _ _ _ _ _ _ us hl => match us, hl with | [_, _], _ => rfl
  have m20 := PySem.W.mg_of X G a20
  have F21 := fun_mk (st := s__law_same) l21 c21 k21
  have b21 := F21.binds (ps := ["actual", "due"]) fun _ _ _ _ _ _ us hl => match us, hl with | [_, _], _ => rfl
  have m21 := PySem.W.mg_of X G a21
  have F22 := fun_mk (st := s__law_name) l22 c22 k22
  have b22 := F22.binds (ps := ["pool"]) fun _ _ _ _ _ _ us hl => match us, hl with | [_], _ => rfl
  have m22 := PySem.W.mg_of X G a22
  have F23 := fun_mk (st := s__law_unlike) l23 c23 k23
  have b23 := F23.binds (ps := ["pool", "count"]) fun _ _ _ _ _ _ us hl => match us, hl with | [_, _], _ => rfl
  have m23 := PySem.W.mg_of X G a23
  have F24 := fun_mk (st := s__law_all_kinds) l24 c24 k24
  have b24 := F24.binds (ps := ["pool"]) fun _ _ _ _ _ _ us hl => match us, hl with | [_], _ => rfl
  have m24 := PySem.W.mg_of X G a24
  have F25 := fun_mk (st := s__law_pairs) l25 c25 k25
  have b25 := F25.binds (ps := ["kinds", "cards"]) fun _ _ _ _ _ _ us hl => match us, hl with | [_, _], _ => rfl
  have m25 := PySem.W.mg_of X G a25
  have F26 := fun_mk (st := s__law_policy) l26 c26 k26
  have b26 := F26.binds (ps := ["pool", "kinds"]) fun _ _ _ _ _ _ us hl => match us, hl with | [_, _], _ => rfl
  have m26 := PySem.W.mg_of X G a26
  have F27 := fun_mk (st := s__law_words) l27 c27 k27
  have b27 := F27.binds (ps := ["policy"]) fun _ _ _ _ _ _ us hl => match us, hl with | [_], _ => rfl
  have m27 := PySem.W.mg_of X G a27
  have F28 := fun_mk (st := s__law_is_name) l28 c28 k28
  have b28 := F28.binds (ps := ["word"]) fun _ _ _ _ _ _ us hl => match us, hl with | [_], _ => rfl
  have m28 := PySem.W.mg_of X G a28
  have F29 := fun_mk (st := s__law_is_number) l29 c29 k29
  have b29 := F29.binds (ps := ["word", "least", "most"]) fun _ _ _ _ _ _ us hl => match us, hl with | [_, _, _], _ => rfl
  have m29 := PySem.W.mg_of X G a29
  have F30 := fun_mk (st := s__law_start) l30 c30 k30
  have b30 := F30.binds (ps := ["state", "word"]) fun _ _ _ _ _ _ us hl => match us, hl with | [_, _], _ => rfl
  have m30 := PySem.W.mg_of X G a30
  have F31 := fun_mk (st := s__law_picks) l31 c31 k31
  have b31 := F31.binds (ps := ["state", "word"]) fun _ _ _ _ _ _ us hl => match us, hl with | [_, _], _ => rfl
  have m31 := PySem.W.mg_of X G a31
  have F32 := fun_mk (st := s__law_cards) l32 c32 k32
  have b32 := F32.binds (ps := ["state", "word"]) fun _ _ _ _ _ _ us hl => match us, hl with | [_, _], _ => rfl
  have m32 := PySem.W.mg_of X G a32
  have F33 := fun_mk (st := s__law_next) l33 c33 k33
  have b33 := F33.binds (ps := ["state", "word"]) fun _ _ _ _ _ _ us hl => match us, hl with | [_, _], _ => rfl
  have m33 := PySem.W.mg_of X G a33
  have F34 := fun_mk (st := s__law_wrong) l34 c34 k34
  have b34 := F34.binds (ps := ["words", "kinds"]) fun _ _ _ _ _ _ us hl => match us, hl with | [_, _], _ => rfl
  have m34 := PySem.W.mg_of X G a34
  have F35 := fun_mk (st := s__law_menu) l35 c35 k35
  have b35 := F35.binds (ps := ["pool", "kinds"]) fun _ _ _ _ _ _ us hl => match us, hl with | [_, _], _ => rfl
  have m35 := PySem.W.mg_of X G a35
  have F36 := fun_mk (st := s__law_changed) l36 c36 k36
  have b36 := F36.binds (ps := ["pool", "words", "kinds"]) fun _ _ _ _ _ _ us hl => match us, hl with | [_, _, _], _ => rfl
  have m36 := PySem.W.mg_of X G a36
  have F37 := fun_mk (st := s__law_walked) l37 c37 k37
  have b37 := F37.binds (ps := ["pool", "kinds"]) fun _ _ _ _ _ _ us hl => match us, hl with | [_, _], _ => rfl
  have m37 := PySem.W.mg_of X G a37
  have F38 := fun_mk (st := s_law) l38 c38 k38
  have b38 := F38.binds (ps := ["script"]) fun _ _ _ _ _ _ us hl => match us, hl with | [_], _ => rfl
  have m38 := PySem.W.mg_of X G a38
  refine ⟨PySem.W.fnOf "law" "law" (defArgs s_law) (defBody s_law) (defScope s_law) .none kV38 dc38 pm38 an38 cd38 ct38, fun s v => .of_eq rfl, fun base _ _ => ?_⟩
  have cls_C3 : Cls K C3 := ⟨pg_C3, hd_C3, po_C3, sa_C3⟩
  have cls_CPl : Cls K CPl := ⟨pg_CPl, hd_CPl, po_CPl, sa_CPl⟩
  have cls_CRd : Cls K CRd := ⟨pg_CRd, hd_CRd, po_CRd, sa_CRd⟩
  have T3 : KdT K C3 := ⟨cls_C3, nC3name, nC3fields⟩
  have T8 : PoT K CPl := ⟨cls_CPl, nCPlcards, nCPlconditions⟩
  have T15 : RdT K CRd := ⟨cls_CRd, nCRdwords, nCRdat⟩
  have gl : GlP mg := ⟨⟨_, PySem.W.mg_of X G gA⟩, ⟨_, PySem.W.mg_of X G gB⟩, ⟨_, PySem.W.mg_of X G gC⟩, ⟨_, PySem.W.mg_of X G gD⟩, ⟨_, PySem.W.mg_of X G gE⟩, ⟨_, PySem.W.mg_of X G gF⟩⟩
  have TKW : GTup K gKW kwS := gtB_ok h_gKW
  have TCW : GTup K gCW cwS := gtB_ok h_gCW
  have K_Kind : C8.Mak l.prog w K mg base 1 "Kind" C3 (toSpI K (caT C3 CPl CRd CT) 3 aspKdI) [] := ⟨⟨f0, _, _, [], ⟨mk_C3, a0, i0, kc_C3⟩, ok_kd_init F0 T3 B, PySem.W.mg_of X G a_C3, b0, .nil⟩⟩
  have C__kept : C8.Cal l.prog w K mg base 1 "_kept" (toSp K (caT C3 CPl CRd CT) aspKeptP) [] := ⟨⟨_, _, _, [], ok_kept_p F1 B, m1, k1, b1, .nil⟩⟩
  have K_Policy : C8.Mak l.prog w K mg base 2 "Policy" CPl (toSpI K (caT C3 CPl CRd CT) 8 aspPolIA) [] := ⟨⟨f2, _, _, [], ⟨mk_CPl, a2, i2, kc_CPl⟩, ok_pol_initA F2 T8 B C__kept, PySem.W.mg_of X G a_CPl, b2, .nil⟩⟩
  have K_Policy3 : C8.Mak l.prog w K mg base 2 "Policy" CPl (toSpI K (caT C3 CPl CRd CT) 8 aspPolI3) [] := mak_weak (fun _ _ h => pol_I3 h) K_Policy
  have C__is_name : C8.Cal l.prog w K mg base 1 "_is_name" (toSp K (caT C3 CPl CRd CT) aspIsName) [] := ⟨⟨_, _, _, [], ok_is_name F3 B gl (PySem.W.mg_of X G a_gKW) TKW, m3, k3, b3, .nil⟩⟩
  have MX_Reader : MakX l.prog w K mg base 1 "Reader" CRd (toSpI2 K (caT C3 CPl CRd CT) 15 bspRdI) := ⟨⟨_, _, _, ⟨mk_CRd, a4, i4, kc_CRd⟩, ok_rd_init (ca := (caT C3 CPl CRd CT)) F4 T15 B, PySem.W.mg_of X G a_CRd, b4⟩⟩
  have M_ahead : C8.Met l.prog w K mg base 1 CRd "ahead" (toSp2 K (caT C3 CPl CRd CT) bspAhead) [] := ⟨⟨f5, _, _, [], cls_CRd, ⟨a5, i5, k5⟩, ok_ahead F5 T15 B, b5, .nil⟩⟩
  have C__values_of : C8.Cal l.prog w K mg base 1 "_values_of" (toSp2 K (caT C3 CPl CRd CT) bspValsOf) [] := ⟨⟨_, _, _, [], ok_values_of F8 T3 B, m8, k8, b8, .nil⟩⟩
  have C__sayable : C8.Cal l.prog w K mg base 1 "_sayable" (toSp K (caT C3 CPl CRd CT) aspSay) [] := ⟨⟨_, _, _, [], ok_sayable F9 B, m9, k9, b9, .nil⟩⟩
  have C__written : C8.Cal l.prog w K mg base 1 "_written" (toSp K (caT C3 CPl CRd CT) aspWritten) [] := ⟨⟨_, _, _, [], ok_written F10 B gl, m10, k10, b10, .nil⟩⟩
  have C_policy_text : C8.Cal l.prog w K mg base 1 "policy_text" (toSp K (caT C3 CPl CRd CT) aspPText) [] := ⟨⟨_, _, _, [], ok_policy_text F17 T8 B, m17, k17, b17, .nil⟩⟩
  have oexQ : OexC K CT := ⟨⟨Qnm, Qq, QN, Qbs, Qbm, Qsn, Qsub, Qab, Qcol, Qdd, Qk0, Qk1, Qk2, Qk3, Qk5, Qlk, Qrf⟩, Qsa, Qbe, Qty, Qkc⟩
  have XMQ : XMk l.prog w K mg base "BadText" CT "at" := ⟨⟨_, _, _, oexQ, a18, fn_ty i18, ok_x_BadText F18 oexQ Qwh, b18, PySem.W.mg_of X G a_CT⟩⟩
  have MX_take : MetX l.prog w K mg base 3 CRd "take" (toSp2 K (caT C3 CPl CRd CT) bspTakeX) := ⟨⟨_, _, _, cls_CRd, ⟨a6, i6, k6⟩, ok_takeX (ca := (caT C3 CPl CRd CT)) F6 T15 B XMQ M_ahead, b6⟩⟩
  have MX_take_name : MetX l.prog w K mg base 4 CRd "take_name" (toSp2 K (caT C3 CPl CRd CT) bspTakeNX) := ⟨⟨_, _, _, cls_CRd, ⟨a7, i7, k7⟩, ok_take_nameX (ca := (caT C3 CPl CRd CT)) F7 T15 B M_ahead MX_take C__is_name, b7⟩⟩
  have X__read_value : CalX l.prog w K mg base 4 "_read_value" (toSp2 K (caT C3 CPl CRd CT) bspRVX) := ⟨⟨_, _, _, ok_read_valueX (ca := (caT C3 CPl CRd CT)) F11 B MX_take, m11, k11, b11⟩⟩
  have X__read_number : CalX l.prog w K mg base 4 "_read_number" (toSp2 K (caT C3 CPl CRd CT) bspRNX) := ⟨⟨_, _, _, ok_read_numberX (ca := (caT C3 CPl CRd CT)) F12 B MX_take C__written, m12, k12, b12⟩⟩
  have X__read_numbers : CalX l.prog w K mg base 5 "_read_numbers" (toSp2 K (caT C3 CPl CRd CT) bspRNsX) := ⟨⟨_, _, _, ok_read_numbersX (ca := (caT C3 CPl CRd CT)) F13 B X__read_number C__written M_ahead, m13, k13, b13⟩⟩
  have X__read_condition : CalX l.prog w K mg base 6 "_read_condition" (toSp2 K (caT C3 CPl CRd CT) bspRCX) := ⟨⟨_, _, _, ok_read_conditionX (ca := (caT C3 CPl CRd CT)) F14 B (PySem.W.mg_of X G a_gCW) TCW MX_take C__sayable X__read_value X__read_number X__read_numbers, m14, k14, b14⟩⟩
  have X__read_card : CalX l.prog w K mg base 5 "_read_card" (toSp2 K (caT C3 CPl CRd CT) bspRCaX) := ⟨⟨_, _, _, ok_read_cardX (ca := (caT C3 CPl CRd CT)) F15 T3 B gl M_ahead MX_take MX_take_name C__is_name, m15, k15, b15⟩⟩
  have X_read_policy : CalX l.prog w K mg base 7 "read_policy" (toSp2 K (caT C3 CPl CRd CT) bspReadX) := ⟨⟨_, _, _, ok_read_policyX (ca := (caT C3 CPl CRd CT)) F16 T3 B gl XMQ MX_Reader M_ahead T15 X__read_card C__values_of X__read_condition K_Policy3, m16, k16, b16⟩⟩
  have C__law_pool : C8.Cal l.prog w K mg base 1 "_law_pool" (spPool K) [] := ⟨⟨_, _, _, [], ok_law_pool F19 B, m19, k19, b19, .nil⟩⟩
  have C__law_draw : C8.Cal l.prog w K mg base 1 "_law_draw" spDrawP [] := ⟨⟨_, _, _, [], ok_law_drawP F20 B, m20, k20, b20, .nil⟩⟩
  have D_draw : C8.Cal l.prog w K mg base 1 "_law_draw" (toSp K (caT C3 CPl CRd CT) aspDraw) [] := cal_weak sp_draw C__law_draw
  have C__law_same : C8.Cal l.prog w K mg base 14 "_law_same" (toSp K (caT C3 CPl CRd CT) (aspSame 14)) [] := ⟨⟨_, _, _, [], ok_law_same F21 B m21 b21 14, m21, k21, b21, .nil⟩⟩
  have WS : CalW l.prog w K mg base 1 "_law_same" (toSp K (caT C3 CPl CRd CT) aspSameW) := ⟨⟨_, _, _, ok_law_sameW F21 B, m21, k21, b21⟩⟩
  have C__law_name : C8.Cal l.prog w K mg base 2 "_law_name" (toSp K (caT C3 CPl CRd CT) aspLName) [] := ⟨⟨_, _, _, [], ok_law_name F22 B D_draw, m22, k22, b22, .nil⟩⟩
  have C__law_unlike : C8.Cal l.prog w K mg base 3 "_law_unlike" (toSp K (caT C3 CPl CRd CT) aspLUnl) [] := ⟨⟨_, _, _, [], ok_law_unlike F23 B C__law_name, m23, k23, b23, .nil⟩⟩
  have C__law_all_kinds : C8.Cal l.prog w K mg base 4 "_law_all_kinds" (toSp K (caT C3 CPl CRd CT) aspLAK) [] := ⟨⟨_, _, _, [], ok_law_all_kinds F24 B D_draw C__law_unlike, m24, k24, b24, .nil⟩⟩
  have C__law_pairs : C8.Cal l.prog w K mg base 1 "_law_pairs" (toSp K (caT C3 CPl CRd CT) aspLPrs) [] := ⟨⟨_, _, _, [], ok_law_pairs F25 B, m25, k25, b25, .nil⟩⟩
  have C__law_policy : C8.Cal l.prog w K mg base 4 "_law_policy" (toSp K (caT C3 CPl CRd CT) aspLPol) [] := ⟨⟨_, _, _, [], ok_law_policy F26 B D_draw C__law_unlike C__law_pairs, m26, k26, b26, .nil⟩⟩
  have C__law_words : C8.Cal l.prog w K mg base 1 "_law_words" (toSp K (caT C3 CPl CRd CT) aspLWords) [] := ⟨⟨_, _, _, [], ok_law_words F27 B, m27, k27, b27, .nil⟩⟩
  have C__law_is_name : C8.Cal l.prog w K mg base 1 "_law_is_name" (toSp K (caT C3 CPl CRd CT) aspLIsName) [] := ⟨⟨_, _, _, [], ok_law_is_name F28 B, m28, k28, b28, .nil⟩⟩
  have C__law_is_number : C8.Cal l.prog w K mg base 1 "_law_is_number" (toSp K (caT C3 CPl CRd CT) aspLIsNum) [] := ⟨⟨_, _, _, [], ok_law_is_number F29 B, m29, k29, b29, .nil⟩⟩
  have CPC : C8.Cal l.prog w K mg base 1 "_law_pairs" (toSp2 K (caT C3 CPl CRd CT) bspLPrC) [] := ⟨⟨_, _, _, [], ok_law_pairsC F25 B, m25, k25, b25, .nil⟩⟩
  have C__law_start : C8.Cal l.prog w K mg base 2 "_law_start" (toSp2 K (caT C3 CPl CRd CT) bspLwStart) [] := ⟨⟨_, _, _, [], ok_law_start F30 B CPC, m30, k30, b30, .nil⟩⟩
  have C__law_picks : C8.Cal l.prog w K mg base 2 "_law_picks" (toSp2 K (caT C3 CPl CRd CT) bspLPick) [] := ⟨⟨_, _, _, [], ok_law_picks F31 B CPC, m31, k31, b31, .nil⟩⟩
  have C__law_cards : C8.Cal l.prog w K mg base 2 "_law_cards" (toSp2 K (caT C3 CPl CRd CT) bspLCrd) [] := ⟨⟨_, _, _, [], ok_law_cards F32 B C__law_is_name, m32, k32, b32, .nil⟩⟩
  have C__law_next : C8.Cal l.prog w K mg base 3 "_law_next" (toSp2 K (caT C3 CPl CRd CT) bspLNxt) [] := ⟨⟨_, _, _, [], ok_law_next F33 B C__law_is_name C__law_is_number C__law_start C__law_picks C__law_cards, m33, k33, b33, .nil⟩⟩
  have C__law_wrong : C8.Cal l.prog w K mg base 4 "_law_wrong" (toSp K (caT C3 CPl CRd CT) aspLWr) [] := ⟨⟨_, _, _, [], ok_law_wrong F34 B C__law_next, m34, k34, b34, .nil⟩⟩
  have C__law_menu : C8.Cal l.prog w K mg base 2 "_law_menu" (toSp K (caT C3 CPl CRd CT) aspLMn) [] := ⟨⟨_, _, _, [], ok_law_menu F35 B D_draw, m35, k35, b35, .nil⟩⟩
  have C__law_changed : C8.Cal l.prog w K mg base 3 "_law_changed" (toSp K (caT C3 CPl CRd CT) aspLCh) [] := ⟨⟨_, _, _, [], ok_law_changed F36 B D_draw C__law_menu, m36, k36, b36, .nil⟩⟩
  have C__law_walked : C8.Cal l.prog w K mg base 5 "_law_walked" (toSp K (caT C3 CPl CRd CT) aspLWk) [] := ⟨⟨_, _, _, [], ok_law_walked F37 B D_draw C__law_menu C__law_wrong, m37, k37, b37, .nil⟩⟩
  have XE : L2.ExcC K ((caT C3 CPl CRd CT) 14) := ⟨Qga, Qgg, Qbe, Qhd, Qha, hn1, ht1, Qhm⟩
  have XF : XfC K ((caT C3 CPl CRd CT) 14) ∧ PySem.W.findIn K (.ref ((caT C3 CPl CRd CT) 14)) "at" = some none := ⟨⟨Qga, Qgg, Qbe, Qhd⟩, Qwh⟩
  have XK : ∀ k ∈ [14], (∃ f, xcN k = some f) ∧ PySem.W.exmOne K (.ref ((caT C3 CPl CRd CT) k)) (.ref CV) = some true := fun k hk => by obtain rfl := List.mem_singleton.mp hk; exact ⟨⟨_, rfl⟩, exm_of bV iV yV zV⟩
  have er : Errs31 K mg (caT C3 CPl CRd CT) CV CG CO CR CQ CU := ⟨PySem.W.mg_of X G a_CV, PySem.W.mg_of X G a_CG, PySem.W.mg_of X G a_CO, PySem.W.mg_of X G a_CQ, PySem.W.mg_of X G a_CR, PySem.W.mg_of X G a_CT, PySem.W.mg_of X G a_CU⟩
  exact ok_law F38 B T3 er C__law_pool D_draw XE XF kit_self (kit_cons (kit_no iG yG zG zQ) (kit_cons (kit_no iO yO zO zQ) (kit_cons (kit_no iS yS zS zQ) (kit_cons (kit_no iR yR zR zQ) (kit_cons (kit_no iU yU zU zQ) rfl))))) XK C__law_all_kinds C__law_policy C__law_words C__law_walked C__law_changed C__law_wrong C__law_same WS X_read_policy C_policy_text K_Kind
def ex0 : List (PySem.W.Frag → Bool) := [fun K => decide (PySem.W.nsIn K mainGlobals "Kind" = some (some (.ref (He.ga K "Kind")))),
  fun K => decide (PySem.W.plainGet K (He.ga K "Kind") Str.empty = true),
  fun K => decide (PySem.W.hasDictIn K (He.ga K "Kind") = true),
  fun K => decide (PySem.W.plainOver K (He.ga K "Kind") = true),
  fun K => decide (PySem.W.findIn K (.ref (He.ga K "Kind")) "__setattr__" = some (some (.builtin "object.__setattr__"))),
  fun K => decide (PySem.W.makesIn K (He.ga K "Kind") = true),
  fun K => decide (PySem.W.keepIn K (.ref (He.ga K "Kind")) = true),
  fun K => decide (PySem.W.findIn K (.ref (He.ga K "Kind")) "name" = some none),
  fun K => decide (PySem.W.findIn K (.ref (He.ga K "Kind")) "fields" = some none),
  fun K => decide (PySem.W.nsIn K mainGlobals "Policy" = some (some (.ref (He.ga K "Policy")))),
  fun K => decide (PySem.W.plainGet K (He.ga K "Policy") Str.empty = true),
  fun K => decide (PySem.W.hasDictIn K (He.ga K "Policy") = true),
  fun K => decide (PySem.W.plainOver K (He.ga K "Policy") = true),
  fun K => decide (PySem.W.findIn K (.ref (He.ga K "Policy")) "__setattr__" = some (some (.builtin "object.__setattr__"))),
  fun K => decide (PySem.W.makesIn K (He.ga K "Policy") = true),
  fun K => decide (PySem.W.keepIn K (.ref (He.ga K "Policy")) = true),
  fun K => decide (PySem.W.findIn K (.ref (He.ga K "Policy")) "cards" = some none),
  fun K => decide (PySem.W.findIn K (.ref (He.ga K "Policy")) "conditions" = some none),
  fun K => decide (PySem.W.nsIn K mainGlobals "Reader" = some (some (.ref (He.ga K "Reader")))),
  fun K => decide (PySem.W.plainGet K (He.ga K "Reader") Str.empty = true)]
def ex1 : List (PySem.W.Frag → Bool) := [fun K => decide (PySem.W.hasDictIn K (He.ga K "Reader") = true),
  fun K => decide (PySem.W.plainOver K (He.ga K "Reader") = true),
  fun K => decide (PySem.W.findIn K (.ref (He.ga K "Reader")) "__setattr__" = some (some (.builtin "object.__setattr__"))),
  fun K => decide (PySem.W.makesIn K (He.ga K "Reader") = true),
  fun K => decide (PySem.W.keepIn K (.ref (He.ga K "Reader")) = true),
  fun K => decide (PySem.W.findIn K (.ref (He.ga K "Reader")) "words" = some none),
  fun K => decide (PySem.W.findIn K (.ref (He.ga K "Reader")) "at" = some none),
  fun K => decide (PySem.W.specialIn K (.builtin "object.__class__") "__get__" = some (some (.builtin "getset_descriptor.__get__"))),
  fun K => decide (PySem.W.takesIn K (.builtin "object.__class__") = some true),
  fun K => decide (PySem.W.nsIn K mainGlobals "LONGEST_NAME" = some (some (.int 8 (HM.tokG K "LONGEST_NAME")))),
  fun K => decide (PySem.W.nsIn K mainGlobals "MOST_CARDS" = some (some (.int 3 (HM.tokG K "MOST_CARDS")))),
  fun K => decide (PySem.W.nsIn K mainGlobals "MOST_ISSUERS" = some (some (.int 3 (HM.tokG K "MOST_ISSUERS")))),
  fun K => decide (PySem.W.nsIn K mainGlobals "MOST_CONDITIONS" = some (some (.int 6 (HM.tokG K "MOST_CONDITIONS")))),
  fun K => decide (PySem.W.nsIn K mainGlobals "FIRST_TOO_LONG" = some (some (.int 100 (HM.tokG K "FIRST_TOO_LONG")))),
  fun K => decide (PySem.W.nsIn K mainGlobals "LETTERS" = some (some (.str "abcdefghijklmnopqrstuvwxyz" (HM.tokG K "LETTERS")))),
  fun K => decide (PySem.W.nsIn K mainGlobals "KEY_WORDS" = some (some (.ref (He.ga K "KEY_WORDS")))),
  fun K => decide (PySem.W.nsIn K mainGlobals "CONDITION_WORDS" = some (some (.ref (He.ga K "CONDITION_WORDS")))),
  fun K => decide (HM.gtB K (He.ga K "KEY_WORDS") kwS = true),
  fun K => decide (HM.gtB K (He.ga K "CONDITION_WORDS") cwS = true),
  fun K => decide (PySem.W.nsIn K mainGlobals "BadText" = some (some (.ref (He.ga K "BadText"))))]
def ex2 : List (PySem.W.Frag → Bool) := [fun K => decide (PySem.W.nsIn K mainGlobals "VouchError" = some (some (.ref (He.ga K "VouchError")))),
  fun K => decide (PySem.W.nsIn K mainGlobals "BadGroup" = some (some (.ref (He.ga K "BadGroup")))),
  fun K => decide (PySem.W.nsIn K mainGlobals "BadOpening" = some (some (.ref (He.ga K "BadOpening")))),
  fun K => decide (PySem.W.nsIn K mainGlobals "BadQuestion" = some (some (.ref (He.ga K "BadQuestion")))),
  fun K => decide (PySem.W.nsIn K mainGlobals "BadRequest" = some (some (.ref (He.ga K "BadRequest")))),
  fun K => decide (PySem.W.nsIn K mainGlobals "BadTurn" = some (some (.ref (He.ga K "BadTurn")))),
  fun K => decide (PySem.W.findIn K (.ref (He.ga K "BadText")) "__setattr__" = some (some (.builtin "object.__setattr__"))),
  fun K => decide (PySem.W.typeIn K (.ref (He.ga K "BadText")) = some (.type "type")),
  fun K => decide (PySem.W.keepIn K (.ref (He.ga K "BadText")) = true),
  fun K => decide (PySem.W.findIn K (.ref (He.ga K "BadText")) "at" = some none),
  fun K => decide (PySem.W.subIn K (.ref (He.ga K "BadText")) (.type "BaseException") = some true),
  fun K => decide (PySem.W.findIn K (.ref (He.ga K "BadText")) "__getattribute__" = some (some (.builtin "BaseException.__getattribute__"))),
  fun K => decide (PySem.W.findIn K (.ref (He.ga K "BadText")) "__getattr__" = some none),
  fun K => decide (PySem.W.hasDictIn K (He.ga K "BadText") = true),
  fun K => decide (PySem.W.findIn K (.ref (He.ga K "BadText")) "__class__" = some (some (.builtin "object.__class__"))),
  fun K => decide (PySem.W.mroIn K (He.ga K "BadText") (.type "object") = some true),
  fun K => decide (PySem.W.subIn K (.ref (He.ga K "VouchError")) (.type "BaseException") = some true),
  fun K => decide (PySem.W.isClsIn K (He.ga K "VouchError") = true),
  fun K => decide (PySem.W.typeIn K (.ref (He.ga K "VouchError")) = some (.type "type")),
  fun K => decide (PySem.W.subIn K (.ref (He.ga K "BadText")) (.ref (He.ga K "VouchError")) = some true)]
def ex3 : List (PySem.W.Frag → Bool) := [fun K => decide (PySem.W.subIn K (.ref (He.ga K "BadText")) (.ref (He.ga K "BadText")) = some true),
  fun K => decide (PySem.W.isClsIn K (He.ga K "BadGroup") = true),
  fun K => decide (PySem.W.typeIn K (.ref (He.ga K "BadGroup")) = some (.type "type")),
  fun K => decide (PySem.W.subIn K (.ref (He.ga K "BadText")) (.ref (He.ga K "BadGroup")) = some false),
  fun K => decide (PySem.W.isClsIn K (He.ga K "BadOpening") = true),
  fun K => decide (PySem.W.typeIn K (.ref (He.ga K "BadOpening")) = some (.type "type")),
  fun K => decide (PySem.W.subIn K (.ref (He.ga K "BadText")) (.ref (He.ga K "BadOpening")) = some false),
  fun K => decide (PySem.W.isClsIn K (He.ga K "BadQuestion") = true),
  fun K => decide (PySem.W.typeIn K (.ref (He.ga K "BadQuestion")) = some (.type "type")),
  fun K => decide (PySem.W.subIn K (.ref (He.ga K "BadText")) (.ref (He.ga K "BadQuestion")) = some false),
  fun K => decide (PySem.W.isClsIn K (He.ga K "BadRequest") = true),
  fun K => decide (PySem.W.typeIn K (.ref (He.ga K "BadRequest")) = some (.type "type")),
  fun K => decide (PySem.W.subIn K (.ref (He.ga K "BadText")) (.ref (He.ga K "BadRequest")) = some false),
  fun K => decide (PySem.W.isClsIn K (He.ga K "BadTurn") = true),
  fun K => decide (PySem.W.typeIn K (.ref (He.ga K "BadTurn")) = some (.type "type")),
  fun K => decide (PySem.W.subIn K (.ref (He.ga K "BadText")) (.ref (He.ga K "BadTurn")) = some false),
  fun K => decide (PySem.W.findIn K (.ref (He.ga K "Kind")) "__init__" = some (some (.ref (He.fAd K ("Kind", some "__init__"))))),
  fun K => decide (PySem.W.isFn K (.ref (He.fAd K ("Kind", some "__init__"))) = true),
  fun K => decide (PySem.W.keepIn K (.ref (He.fAd K ("Kind", some "__init__"))) = true),
  fun K => decide (PySem.W.nsIn K mainGlobals "_kept" = some (some (.ref (He.fAd K ("_kept", none)))))]
def ex4 : List (PySem.W.Frag → Bool) := [fun K => decide (PySem.W.keepIn K (.ref (He.fAd K ("_kept", none))) = true),
  fun K => decide (PySem.W.findIn K (.ref (He.ga K "Policy")) "__init__" = some (some (.ref (He.fAd K ("Policy", some "__init__"))))),
  fun K => decide (PySem.W.isFn K (.ref (He.fAd K ("Policy", some "__init__"))) = true),
  fun K => decide (PySem.W.keepIn K (.ref (He.fAd K ("Policy", some "__init__"))) = true),
  fun K => decide (PySem.W.nsIn K mainGlobals "_is_name" = some (some (.ref (He.fAd K ("_is_name", none))))),
  fun K => decide (PySem.W.keepIn K (.ref (He.fAd K ("_is_name", none))) = true),
  fun K => decide (PySem.W.findIn K (.ref (He.ga K "Reader")) "__init__" = some (some (.ref (He.fAd K ("Reader", some "__init__"))))),
  fun K => decide (PySem.W.isFn K (.ref (He.fAd K ("Reader", some "__init__"))) = true),
  fun K => decide (PySem.W.keepIn K (.ref (He.fAd K ("Reader", some "__init__"))) = true),
  fun K => decide (PySem.W.findIn K (.ref (He.ga K "Reader")) "ahead" = some (some (.ref (He.fAd K ("Reader", some "ahead"))))),
  fun K => decide (PySem.W.isFn K (.ref (He.fAd K ("Reader", some "ahead"))) = true),
  fun K => decide (PySem.W.keepIn K (.ref (He.fAd K ("Reader", some "ahead"))) = true),
  fun K => decide (PySem.W.findIn K (.ref (He.ga K "Reader")) "take" = some (some (.ref (He.fAd K ("Reader", some "take"))))),
  fun K => decide (PySem.W.isFn K (.ref (He.fAd K ("Reader", some "take"))) = true),
  fun K => decide (PySem.W.keepIn K (.ref (He.fAd K ("Reader", some "take"))) = true),
  fun K => decide (PySem.W.findIn K (.ref (He.ga K "Reader")) "take_name" = some (some (.ref (He.fAd K ("Reader", some "take_name"))))),
  fun K => decide (PySem.W.isFn K (.ref (He.fAd K ("Reader", some "take_name"))) = true),
  fun K => decide (PySem.W.keepIn K (.ref (He.fAd K ("Reader", some "take_name"))) = true),
  fun K => decide (PySem.W.nsIn K mainGlobals "_values_of" = some (some (.ref (He.fAd K ("_values_of", none))))),
  fun K => decide (PySem.W.keepIn K (.ref (He.fAd K ("_values_of", none))) = true)]
def ex5 : List (PySem.W.Frag → Bool) := [fun K => decide (PySem.W.nsIn K mainGlobals "_sayable" = some (some (.ref (He.fAd K ("_sayable", none))))),
  fun K => decide (PySem.W.keepIn K (.ref (He.fAd K ("_sayable", none))) = true),
  fun K => decide (PySem.W.nsIn K mainGlobals "_written" = some (some (.ref (He.fAd K ("_written", none))))),
  fun K => decide (PySem.W.keepIn K (.ref (He.fAd K ("_written", none))) = true),
  fun K => decide (PySem.W.nsIn K mainGlobals "_read_value" = some (some (.ref (He.fAd K ("_read_value", none))))),
  fun K => decide (PySem.W.keepIn K (.ref (He.fAd K ("_read_value", none))) = true),
  fun K => decide (PySem.W.nsIn K mainGlobals "_read_number" = some (some (.ref (He.fAd K ("_read_number", none))))),
  fun K => decide (PySem.W.keepIn K (.ref (He.fAd K ("_read_number", none))) = true),
  fun K => decide (PySem.W.nsIn K mainGlobals "_read_numbers" = some (some (.ref (He.fAd K ("_read_numbers", none))))),
  fun K => decide (PySem.W.keepIn K (.ref (He.fAd K ("_read_numbers", none))) = true),
  fun K => decide (PySem.W.nsIn K mainGlobals "_read_condition" = some (some (.ref (He.fAd K ("_read_condition", none))))),
  fun K => decide (PySem.W.keepIn K (.ref (He.fAd K ("_read_condition", none))) = true),
  fun K => decide (PySem.W.nsIn K mainGlobals "_read_card" = some (some (.ref (He.fAd K ("_read_card", none))))),
  fun K => decide (PySem.W.keepIn K (.ref (He.fAd K ("_read_card", none))) = true),
  fun K => decide (PySem.W.nsIn K mainGlobals "read_policy" = some (some (.ref (He.fAd K ("read_policy", none))))),
  fun K => decide (PySem.W.keepIn K (.ref (He.fAd K ("read_policy", none))) = true),
  fun K => decide (PySem.W.nsIn K mainGlobals "policy_text" = some (some (.ref (He.fAd K ("policy_text", none))))),
  fun K => decide (PySem.W.keepIn K (.ref (He.fAd K ("policy_text", none))) = true),
  fun K => decide (PySem.W.findIn K (.ref (He.ga K "BadText")) "__init__" = some (some (.ref (He.fAd K ("BadText", some "__init__"))))),
  fun K => decide (PySem.W.isFn K (.ref (He.fAd K ("BadText", some "__init__"))) = true)]
def ex6 : List (PySem.W.Frag → Bool) := [fun K => decide (PySem.W.keepIn K (.ref (He.fAd K ("BadText", some "__init__"))) = true),
  fun K => decide (PySem.W.nsIn K mainGlobals "_law_pool" = some (some (.ref (He.fAd K ("_law_pool", none))))),
  fun K => decide (PySem.W.keepIn K (.ref (He.fAd K ("_law_pool", none))) = true),
  fun K => decide (PySem.W.nsIn K mainGlobals "_law_draw" = some (some (.ref (He.fAd K ("_law_draw", none))))),
  fun K => decide (PySem.W.keepIn K (.ref (He.fAd K ("_law_draw", none))) = true),
  fun K => decide (PySem.W.nsIn K mainGlobals "_law_same" = some (some (.ref (He.fAd K ("_law_same", none))))),
  fun K => decide (PySem.W.keepIn K (.ref (He.fAd K ("_law_same", none))) = true),
  fun K => decide (PySem.W.nsIn K mainGlobals "_law_name" = some (some (.ref (He.fAd K ("_law_name", none))))),
  fun K => decide (PySem.W.keepIn K (.ref (He.fAd K ("_law_name", none))) = true),
  fun K => decide (PySem.W.nsIn K mainGlobals "_law_unlike" = some (some (.ref (He.fAd K ("_law_unlike", none))))),
  fun K => decide (PySem.W.keepIn K (.ref (He.fAd K ("_law_unlike", none))) = true),
  fun K => decide (PySem.W.nsIn K mainGlobals "_law_all_kinds" = some (some (.ref (He.fAd K ("_law_all_kinds", none))))),
  fun K => decide (PySem.W.keepIn K (.ref (He.fAd K ("_law_all_kinds", none))) = true),
  fun K => decide (PySem.W.nsIn K mainGlobals "_law_pairs" = some (some (.ref (He.fAd K ("_law_pairs", none))))),
  fun K => decide (PySem.W.keepIn K (.ref (He.fAd K ("_law_pairs", none))) = true),
  fun K => decide (PySem.W.nsIn K mainGlobals "_law_policy" = some (some (.ref (He.fAd K ("_law_policy", none))))),
  fun K => decide (PySem.W.keepIn K (.ref (He.fAd K ("_law_policy", none))) = true),
  fun K => decide (PySem.W.nsIn K mainGlobals "_law_words" = some (some (.ref (He.fAd K ("_law_words", none))))),
  fun K => decide (PySem.W.keepIn K (.ref (He.fAd K ("_law_words", none))) = true),
  fun K => decide (PySem.W.nsIn K mainGlobals "_law_is_name" = some (some (.ref (He.fAd K ("_law_is_name", none)))))]
def ex7 : List (PySem.W.Frag → Bool) := [fun K => decide (PySem.W.keepIn K (.ref (He.fAd K ("_law_is_name", none))) = true),
  fun K => decide (PySem.W.nsIn K mainGlobals "_law_is_number" = some (some (.ref (He.fAd K ("_law_is_number", none))))),
  fun K => decide (PySem.W.keepIn K (.ref (He.fAd K ("_law_is_number", none))) = true),
  fun K => decide (PySem.W.nsIn K mainGlobals "_law_start" = some (some (.ref (He.fAd K ("_law_start", none))))),
  fun K => decide (PySem.W.keepIn K (.ref (He.fAd K ("_law_start", none))) = true),
  fun K => decide (PySem.W.nsIn K mainGlobals "_law_picks" = some (some (.ref (He.fAd K ("_law_picks", none))))),
  fun K => decide (PySem.W.keepIn K (.ref (He.fAd K ("_law_picks", none))) = true),
  fun K => decide (PySem.W.nsIn K mainGlobals "_law_cards" = some (some (.ref (He.fAd K ("_law_cards", none))))),
  fun K => decide (PySem.W.keepIn K (.ref (He.fAd K ("_law_cards", none))) = true),
  fun K => decide (PySem.W.nsIn K mainGlobals "_law_next" = some (some (.ref (He.fAd K ("_law_next", none))))),
  fun K => decide (PySem.W.keepIn K (.ref (He.fAd K ("_law_next", none))) = true),
  fun K => decide (PySem.W.nsIn K mainGlobals "_law_wrong" = some (some (.ref (He.fAd K ("_law_wrong", none))))),
  fun K => decide (PySem.W.keepIn K (.ref (He.fAd K ("_law_wrong", none))) = true),
  fun K => decide (PySem.W.nsIn K mainGlobals "_law_menu" = some (some (.ref (He.fAd K ("_law_menu", none))))),
  fun K => decide (PySem.W.keepIn K (.ref (He.fAd K ("_law_menu", none))) = true),
  fun K => decide (PySem.W.nsIn K mainGlobals "_law_changed" = some (some (.ref (He.fAd K ("_law_changed", none))))),
  fun K => decide (PySem.W.keepIn K (.ref (He.fAd K ("_law_changed", none))) = true),
  fun K => decide (PySem.W.nsIn K mainGlobals "_law_walked" = some (some (.ref (He.fAd K ("_law_walked", none))))),
  fun K => decide (PySem.W.keepIn K (.ref (He.fAd K ("_law_walked", none))) = true),
  fun K => decide (PySem.W.nsIn K mainGlobals "law" = some (some (.ref (He.fAd K ("law", none)))))]
def ex8 : List (PySem.W.Frag → Bool) := [fun K => decide (PySem.W.keepIn K (.ref (He.fAd K ("law", none))) = true),
  fun K => decide (PySem.W.nsIn K mainGlobals "isinstance" = some none),
  fun K => decide (PySem.W.nsIn K mainGlobals "len" = some none),
  fun K => decide (PySem.W.nsIn K mainGlobals "sum" = some none),
  fun K => decide (PySem.W.nsIn K mainGlobals "max" = some none),
  fun K => decide (PySem.W.nsIn K mainGlobals "min" = some none),
  fun K => decide (PySem.W.nsIn K mainGlobals "abs" = some none),
  fun K => decide (PySem.W.nsIn K mainGlobals "any" = some none),
  fun K => decide (PySem.W.nsIn K mainGlobals "all" = some none),
  fun K => decide (PySem.W.nsIn K mainGlobals "sorted" = some none),
  fun K => decide (PySem.W.nsIn K mainGlobals "int" = some none),
  fun K => decide (PySem.W.nsIn K mainGlobals "bool" = some none),
  fun K => decide (PySem.W.nsIn K mainGlobals "str" = some none),
  fun K => decide (PySem.W.nsIn K mainGlobals "list" = some none),
  fun K => decide (PySem.W.nsIn K mainGlobals "tuple" = some none),
  fun K => decide (PySem.W.nsIn K mainGlobals "dict" = some none),
  fun K => decide (PySem.W.nsIn K mainGlobals "range" = some none),
  fun K => decide (PySem.W.nsIn K mainGlobals "enumerate" = some none),
  fun K => decide (PySem.W.nsIn K mainGlobals "zip" = some none),
  fun K => decide (HM.excB K (He.ga K "BadText") = true)]
def exs : HM.Ex := [ex0, ex1, ex2, ex3, ex4, ex5, ex6, ex7, ex8]
def fd0 : He.FnD := ⟨("Kind", some "__init__"), "__init__", "Kind.__init__", defArgs s_Kind___init__, defBody s_Kind___init__, defScope s_Kind___init__⟩
def fd1 : He.FnD := ⟨("_kept", none), "_kept", "_kept", defArgs s__kept, defBody s__kept, defScope s__kept⟩
def fd2 : He.FnD := ⟨("Policy", some "__init__"), "__init__", "Policy.__init__", defArgs s_Policy___init__, defBody s_Policy___init__, defScope s_Policy___init__⟩
def fd3 : He.FnD := ⟨("_is_name", none), "_is_name", "_is_name", defArgs s__is_name, defBody s__is_name, defScope s__is_name⟩
def fd4 : He.FnD := ⟨("Reader", some "__init__"), "__init__", "Reader.__init__", defArgs s_Reader___init__, defBody s_Reader___init__, defScope s_Reader___init__⟩
def fd5 : He.FnD := ⟨("Reader", some "ahead"), "ahead", "Reader.ahead", defArgs s_Reader_ahead, defBody s_Reader_ahead, defScope s_Reader_ahead⟩
def fd6 : He.FnD := ⟨("Reader", some "take"), "take", "Reader.take", defArgs s_Reader_take, defBody s_Reader_take, defScope s_Reader_take⟩
def fd7 : He.FnD := ⟨("Reader", some "take_name"), "take_name", "Reader.take_name", defArgs s_Reader_take_name, defBody s_Reader_take_name, defScope s_Reader_take_name⟩
def fd8 : He.FnD := ⟨("_values_of", none), "_values_of", "_values_of", defArgs s__values_of, defBody s__values_of, defScope s__values_of⟩
def fd9 : He.FnD := ⟨("_sayable", none), "_sayable", "_sayable", defArgs s__sayable, defBody s__sayable, defScope s__sayable⟩
def fd10 : He.FnD := ⟨("_written", none), "_written", "_written", defArgs s__written, defBody s__written, defScope s__written⟩
def fd11 : He.FnD := ⟨("_read_value", none), "_read_value", "_read_value", defArgs s__read_value, defBody s__read_value, defScope s__read_value⟩
def fd12 : He.FnD := ⟨("_read_number", none), "_read_number", "_read_number", defArgs s__read_number, defBody s__read_number, defScope s__read_number⟩
def fd13 : He.FnD := ⟨("_read_numbers", none), "_read_numbers", "_read_numbers", defArgs s__read_numbers, defBody s__read_numbers, defScope s__read_numbers⟩
def fd14 : He.FnD := ⟨("_read_condition", none), "_read_condition", "_read_condition", defArgs s__read_condition, defBody s__read_condition, defScope s__read_condition⟩
def fd15 : He.FnD := ⟨("_read_card", none), "_read_card", "_read_card", defArgs s__read_card, defBody s__read_card, defScope s__read_card⟩
def fd16 : He.FnD := ⟨("read_policy", none), "read_policy", "read_policy", defArgs s_read_policy, defBody s_read_policy, defScope s_read_policy⟩
def fd17 : He.FnD := ⟨("policy_text", none), "policy_text", "policy_text", defArgs s_policy_text, defBody s_policy_text, defScope s_policy_text⟩
def fd18 : He.FnD := ⟨("BadText", some "__init__"), "__init__", "BadText.__init__", defArgs s_BadText___init__, defBody s_BadText___init__, defScope s_BadText___init__⟩
def fd19 : He.FnD := ⟨("_law_pool", none), "_law_pool", "_law_pool", defArgs s__law_pool, defBody s__law_pool, defScope s__law_pool⟩
def fd20 : He.FnD := ⟨("_law_draw", none), "_law_draw", "_law_draw", defArgs s__law_draw, defBody s__law_draw, defScope s__law_draw⟩
def fd21 : He.FnD := ⟨("_law_same", none), "_law_same", "_law_same", defArgs s__law_same, defBody s__law_same, defScope s__law_same⟩
def fd22 : He.FnD := ⟨("_law_name", none), "_law_name", "_law_name", defArgs s__law_name, defBody s__law_name, defScope s__law_name⟩
def fd23 : He.FnD := ⟨("_law_unlike", none), "_law_unlike", "_law_unlike", defArgs s__law_unlike, defBody s__law_unlike, defScope s__law_unlike⟩
def fd24 : He.FnD := ⟨("_law_all_kinds", none), "_law_all_kinds", "_law_all_kinds", defArgs s__law_all_kinds, defBody s__law_all_kinds, defScope s__law_all_kinds⟩
def fd25 : He.FnD := ⟨("_law_pairs", none), "_law_pairs", "_law_pairs", defArgs s__law_pairs, defBody s__law_pairs, defScope s__law_pairs⟩
def fd26 : He.FnD := ⟨("_law_policy", none), "_law_policy", "_law_policy", defArgs s__law_policy, defBody s__law_policy, defScope s__law_policy⟩
def fd27 : He.FnD := ⟨("_law_words", none), "_law_words", "_law_words", defArgs s__law_words, defBody s__law_words, defScope s__law_words⟩
def fd28 : He.FnD := ⟨("_law_is_name", none), "_law_is_name", "_law_is_name", defArgs s__law_is_name, defBody s__law_is_name, defScope s__law_is_name⟩
def fd29 : He.FnD := ⟨("_law_is_number", none), "_law_is_number", "_law_is_number", defArgs s__law_is_number, defBody s__law_is_number, defScope s__law_is_number⟩
def fd30 : He.FnD := ⟨("_law_start", none), "_law_start", "_law_start", defArgs s__law_start, defBody s__law_start, defScope s__law_start⟩
def fd31 : He.FnD := ⟨("_law_picks", none), "_law_picks", "_law_picks", defArgs s__law_picks, defBody s__law_picks, defScope s__law_picks⟩
def fd32 : He.FnD := ⟨("_law_cards", none), "_law_cards", "_law_cards", defArgs s__law_cards, defBody s__law_cards, defScope s__law_cards⟩
def fd33 : He.FnD := ⟨("_law_next", none), "_law_next", "_law_next", defArgs s__law_next, defBody s__law_next, defScope s__law_next⟩
def fd34 : He.FnD := ⟨("_law_wrong", none), "_law_wrong", "_law_wrong", defArgs s__law_wrong, defBody s__law_wrong, defScope s__law_wrong⟩
def fd35 : He.FnD := ⟨("_law_menu", none), "_law_menu", "_law_menu", defArgs s__law_menu, defBody s__law_menu, defScope s__law_menu⟩
def fd36 : He.FnD := ⟨("_law_changed", none), "_law_changed", "_law_changed", defArgs s__law_changed, defBody s__law_changed, defScope s__law_changed⟩
def fd37 : He.FnD := ⟨("_law_walked", none), "_law_walked", "_law_walked", defArgs s__law_walked, defBody s__law_walked, defScope s__law_walked⟩
def fd38 : He.FnD := ⟨("law", none), "law", "law", defArgs s_law, defBody s_law, defScope s_law⟩
def fds0 : List He.FnD := [fd0, fd1, fd2, fd3, fd4, fd5, fd6, fd7, fd8, fd9, fd10, fd11, fd12, fd13, fd14, fd15, fd16, fd17, fd18, fd19]
def fds1 : List He.FnD := [fd20, fd21, fd22, fd23, fd24, fd25, fd26, fd27, fd28, fd29, fd30, fd31, fd32, fd33, fd34, fd35, fd36, fd37, fd38]
def fds : List He.FnD := fds0 ++ fds1
theorem rw_a_C3 {K : PySem.W.Frag} (c : HM.Says exs fds K) : PySem.W.nsIn K mainGlobals "Kind" = some (some (.ref (He.ga K "Kind"))) := of_decide_eq_true (c.row (f := fun K => decide (PySem.W.nsIn K mainGlobals "Kind" = some (some (.ref (He.ga K "Kind"))))) 0 0 rfl rfl)
theorem rw_pg_C3 {K : PySem.W.Frag} (c : HM.Says exs fds K) : PySem.W.plainGet K (He.ga K "Kind") Str.empty = true := of_decide_eq_true (c.row (f := fun K => decide (PySem.W.plainGet K (He.ga K "Kind") Str.empty = true)) 0 1 rfl rfl)
theorem rw_hd_C3 {K : PySem.W.Frag} (c : HM.Says exs fds K) : PySem.W.hasDictIn K (He.ga K "Kind") = true := of_decide_eq_true (c.row (f := fun K => decide (PySem.W.hasDictIn K (He.ga K "Kind") = true)) 0 2 rfl rfl)
theorem rw_po_C3 {K : PySem.W.Frag} (c : HM.Says exs fds K) : PySem.W.plainOver K (He.ga K "Kind") = true := of_decide_eq_true (c.row (f := fun K => decide (PySem.W.plainOver K (He.ga K "Kind") = true)) 0 3 rfl rfl)
theorem rw_sa_C3 {K : PySem.W.Frag} (c : HM.Says exs fds K) : PySem.W.findIn K (.ref (He.ga K "Kind")) "__setattr__" = some (some (.builtin "object.__setattr__")) := of_decide_eq_true (c.row (f := fun K => decide (PySem.W.findIn K (.ref (He.ga K "Kind")) "__setattr__" = some (some (.builtin "object.__setattr__")))) 0 4 rfl rfl)
theorem rw_mk_C3 {K : PySem.W.Frag} (c : HM.Says exs fds K) : PySem.W.makesIn K (He.ga K "Kind") = true := of_decide_eq_true (c.row (f := fun K => decide (PySem.W.makesIn K (He.ga K "Kind") = true)) 0 5 rfl rfl)
theorem rw_kc_C3 {K : PySem.W.Frag} (c : HM.Says exs fds K) : PySem.W.keepIn K (.ref (He.ga K "Kind")) = true := of_decide_eq_true (c.row (f := fun K => decide (PySem.W.keepIn K (.ref (He.ga K "Kind")) = true)) 0 6 rfl rfl)
theorem rw_nC3name {K : PySem.W.Frag} (c : HM.Says exs fds K) : PySem.W.findIn K (.ref (He.ga K "Kind")) "name" = some none := of_decide_eq_true (c.row (f := fun K => decide (PySem.W.findIn K (.ref (He.ga K "Kind")) "name" = some none)) 0 7 rfl rfl)
theorem rw_nC3fields {K : PySem.W.Frag} (c : HM.Says exs fds K) : PySem.W.findIn K (.ref (He.ga K "Kind")) "fields" = some none := of_decide_eq_true (c.row (f := fun K => decide (PySem.W.findIn K (.ref (He.ga K "Kind")) "fields" = some none)) 0 8 rfl rfl)
theorem rw_a_CPl {K : PySem.W.Frag} (c : HM.Says exs fds K) : PySem.W.nsIn K mainGlobals "Policy" = some (some (.ref (He.ga K "Policy"))) := of_decide_eq_true (c.row (f := fun K => decide (PySem.W.nsIn K mainGlobals "Policy" = some (some (.ref (He.ga K "Policy"))))) 0 9 rfl rfl)
theorem rw_pg_CPl {K : PySem.W.Frag} (c : HM.Says exs fds K) : PySem.W.plainGet K (He.ga K "Policy") Str.empty = true := of_decide_eq_true (c.row (f := fun K => decide (PySem.W.plainGet K (He.ga K "Policy") Str.empty = true)) 0 10 rfl rfl)
theorem rw_hd_CPl {K : PySem.W.Frag} (c : HM.Says exs fds K) : PySem.W.hasDictIn K (He.ga K "Policy") = true := of_decide_eq_true (c.row (f := fun K => decide (PySem.W.hasDictIn K (He.ga K "Policy") = true)) 0 11 rfl rfl)
theorem rw_po_CPl {K : PySem.W.Frag} (c : HM.Says exs fds K) : PySem.W.plainOver K (He.ga K "Policy") = true := of_decide_eq_true (c.row (f := fun K => decide (PySem.W.plainOver K (He.ga K "Policy") = true)) 0 12 rfl rfl)
theorem rw_sa_CPl {K : PySem.W.Frag} (c : HM.Says exs fds K) : PySem.W.findIn K (.ref (He.ga K "Policy")) "__setattr__" = some (some (.builtin "object.__setattr__")) := of_decide_eq_true (c.row (f := fun K => decide (PySem.W.findIn K (.ref (He.ga K "Policy")) "__setattr__" = some (some (.builtin "object.__setattr__")))) 0 13 rfl rfl)
theorem rw_mk_CPl {K : PySem.W.Frag} (c : HM.Says exs fds K) : PySem.W.makesIn K (He.ga K "Policy") = true := of_decide_eq_true (c.row (f := fun K => decide (PySem.W.makesIn K (He.ga K "Policy") = true)) 0 14 rfl rfl)
theorem rw_kc_CPl {K : PySem.W.Frag} (c : HM.Says exs fds K) : PySem.W.keepIn K (.ref (He.ga K "Policy")) = true := of_decide_eq_true (c.row (f := fun K => decide (PySem.W.keepIn K (.ref (He.ga K "Policy")) = true)) 0 15 rfl rfl)
theorem rw_nCPlcards {K : PySem.W.Frag} (c : HM.Says exs fds K) : PySem.W.findIn K (.ref (He.ga K "Policy")) "cards" = some none := of_decide_eq_true (c.row (f := fun K => decide (PySem.W.findIn K (.ref (He.ga K "Policy")) "cards" = some none)) 0 16 rfl rfl)
theorem rw_nCPlconditions {K : PySem.W.Frag} (c : HM.Says exs fds K) : PySem.W.findIn K (.ref (He.ga K "Policy")) "conditions" = some none := of_decide_eq_true (c.row (f := fun K => decide (PySem.W.findIn K (.ref (He.ga K "Policy")) "conditions" = some none)) 0 17 rfl rfl)
theorem rw_a_CRd {K : PySem.W.Frag} (c : HM.Says exs fds K) : PySem.W.nsIn K mainGlobals "Reader" = some (some (.ref (He.ga K "Reader"))) := of_decide_eq_true (c.row (f := fun K => decide (PySem.W.nsIn K mainGlobals "Reader" = some (some (.ref (He.ga K "Reader"))))) 0 18 rfl rfl)
theorem rw_pg_CRd {K : PySem.W.Frag} (c : HM.Says exs fds K) : PySem.W.plainGet K (He.ga K "Reader") Str.empty = true := of_decide_eq_true (c.row (f := fun K => decide (PySem.W.plainGet K (He.ga K "Reader") Str.empty = true)) 0 19 rfl rfl)
theorem rw_hd_CRd {K : PySem.W.Frag} (c : HM.Says exs fds K) : PySem.W.hasDictIn K (He.ga K "Reader") = true := of_decide_eq_true (c.row (f := fun K => decide (PySem.W.hasDictIn K (He.ga K "Reader") = true)) 1 0 rfl rfl)
theorem rw_po_CRd {K : PySem.W.Frag} (c : HM.Says exs fds K) : PySem.W.plainOver K (He.ga K "Reader") = true := of_decide_eq_true (c.row (f := fun K => decide (PySem.W.plainOver K (He.ga K "Reader") = true)) 1 1 rfl rfl)
theorem rw_sa_CRd {K : PySem.W.Frag} (c : HM.Says exs fds K) : PySem.W.findIn K (.ref (He.ga K "Reader")) "__setattr__" = some (some (.builtin "object.__setattr__")) := of_decide_eq_true (c.row (f := fun K => decide (PySem.W.findIn K (.ref (He.ga K "Reader")) "__setattr__" = some (some (.builtin "object.__setattr__")))) 1 2 rfl rfl)
theorem rw_mk_CRd {K : PySem.W.Frag} (c : HM.Says exs fds K) : PySem.W.makesIn K (He.ga K "Reader") = true := of_decide_eq_true (c.row (f := fun K => decide (PySem.W.makesIn K (He.ga K "Reader") = true)) 1 3 rfl rfl)
theorem rw_kc_CRd {K : PySem.W.Frag} (c : HM.Says exs fds K) : PySem.W.keepIn K (.ref (He.ga K "Reader")) = true := of_decide_eq_true (c.row (f := fun K => decide (PySem.W.keepIn K (.ref (He.ga K "Reader")) = true)) 1 4 rfl rfl)
theorem rw_nCRdwords {K : PySem.W.Frag} (c : HM.Says exs fds K) : PySem.W.findIn K (.ref (He.ga K "Reader")) "words" = some none := of_decide_eq_true (c.row (f := fun K => decide (PySem.W.findIn K (.ref (He.ga K "Reader")) "words" = some none)) 1 5 rfl rfl)
theorem rw_nCRdat {K : PySem.W.Frag} (c : HM.Says exs fds K) : PySem.W.findIn K (.ref (He.ga K "Reader")) "at" = some none := of_decide_eq_true (c.row (f := fun K => decide (PySem.W.findIn K (.ref (He.ga K "Reader")) "at" = some none)) 1 6 rfl rfl)
theorem rw_hn1 {K : PySem.W.Frag} (c : HM.Says exs fds K) : PySem.W.specialIn K (.builtin "object.__class__") "__get__" = some (some (.builtin "getset_descriptor.__get__")) := of_decide_eq_true (c.row (f := fun K => decide (PySem.W.specialIn K (.builtin "object.__class__") "__get__" = some (some (.builtin "getset_descriptor.__get__")))) 1 7 rfl rfl)
theorem rw_ht1 {K : PySem.W.Frag} (c : HM.Says exs fds K) : PySem.W.takesIn K (.builtin "object.__class__") = some true := of_decide_eq_true (c.row (f := fun K => decide (PySem.W.takesIn K (.builtin "object.__class__") = some true)) 1 8 rfl rfl)
theorem rw_gA {K : PySem.W.Frag} (c : HM.Says exs fds K) : PySem.W.nsIn K mainGlobals "LONGEST_NAME" = some (some (.int 8 (HM.tokG K "LONGEST_NAME"))) := of_decide_eq_true (c.row (f := fun K => decide (PySem.W.nsIn K mainGlobals "LONGEST_NAME" = some (some (.int 8 (HM.tokG K "LONGEST_NAME"))))) 1 9 rfl rfl)
theorem rw_gB {K : PySem.W.Frag} (c : HM.Says exs fds K) : PySem.W.nsIn K mainGlobals "MOST_CARDS" = some (some (.int 3 (HM.tokG K "MOST_CARDS"))) := of_decide_eq_true (c.row (f := fun K => decide (PySem.W.nsIn K mainGlobals "MOST_CARDS" = some (some (.int 3 (HM.tokG K "MOST_CARDS"))))) 1 10 rfl rfl)
theorem rw_gC {K : PySem.W.Frag} (c : HM.Says exs fds K) : PySem.W.nsIn K mainGlobals "MOST_ISSUERS" = some (some (.int 3 (HM.tokG K "MOST_ISSUERS"))) := of_decide_eq_true (c.row (f := fun K => decide (PySem.W.nsIn K mainGlobals "MOST_ISSUERS" = some (some (.int 3 (HM.tokG K "MOST_ISSUERS"))))) 1 11 rfl rfl)
theorem rw_gD {K : PySem.W.Frag} (c : HM.Says exs fds K) : PySem.W.nsIn K mainGlobals "MOST_CONDITIONS" = some (some (.int 6 (HM.tokG K "MOST_CONDITIONS"))) := of_decide_eq_true (c.row (f := fun K => decide (PySem.W.nsIn K mainGlobals "MOST_CONDITIONS" = some (some (.int 6 (HM.tokG K "MOST_CONDITIONS"))))) 1 12 rfl rfl)
theorem rw_gE {K : PySem.W.Frag} (c : HM.Says exs fds K) : PySem.W.nsIn K mainGlobals "FIRST_TOO_LONG" = some (some (.int 100 (HM.tokG K "FIRST_TOO_LONG"))) := of_decide_eq_true (c.row (f := fun K => decide (PySem.W.nsIn K mainGlobals "FIRST_TOO_LONG" = some (some (.int 100 (HM.tokG K "FIRST_TOO_LONG"))))) 1 13 rfl rfl)
theorem rw_gF {K : PySem.W.Frag} (c : HM.Says exs fds K) : PySem.W.nsIn K mainGlobals "LETTERS" = some (some (.str "abcdefghijklmnopqrstuvwxyz" (HM.tokG K "LETTERS"))) := of_decide_eq_true (c.row (f := fun K => decide (PySem.W.nsIn K mainGlobals "LETTERS" = some (some (.str "abcdefghijklmnopqrstuvwxyz" (HM.tokG K "LETTERS"))))) 1 14 rfl rfl)
theorem rw_a_gKW {K : PySem.W.Frag} (c : HM.Says exs fds K) : PySem.W.nsIn K mainGlobals "KEY_WORDS" = some (some (.ref (He.ga K "KEY_WORDS"))) := of_decide_eq_true (c.row (f := fun K => decide (PySem.W.nsIn K mainGlobals "KEY_WORDS" = some (some (.ref (He.ga K "KEY_WORDS"))))) 1 15 rfl rfl)
theorem rw_a_gCW {K : PySem.W.Frag} (c : HM.Says exs fds K) : PySem.W.nsIn K mainGlobals "CONDITION_WORDS" = some (some (.ref (He.ga K "CONDITION_WORDS"))) := of_decide_eq_true (c.row (f := fun K => decide (PySem.W.nsIn K mainGlobals "CONDITION_WORDS" = some (some (.ref (He.ga K "CONDITION_WORDS"))))) 1 16 rfl rfl)
theorem rw_h_gKW {K : PySem.W.Frag} (c : HM.Says exs fds K) : HM.gtB K (He.ga K "KEY_WORDS") kwS = true := of_decide_eq_true (c.row (f := fun K => decide (HM.gtB K (He.ga K "KEY_WORDS") kwS = true)) 1 17 rfl rfl)
theorem rw_h_gCW {K : PySem.W.Frag} (c : HM.Says exs fds K) : HM.gtB K (He.ga K "CONDITION_WORDS") cwS = true := of_decide_eq_true (c.row (f := fun K => decide (HM.gtB K (He.ga K "CONDITION_WORDS") cwS = true)) 1 18 rfl rfl)
theorem rw_a_CT {K : PySem.W.Frag} (c : HM.Says exs fds K) : PySem.W.nsIn K mainGlobals "BadText" = some (some (.ref (He.ga K "BadText"))) := of_decide_eq_true (c.row (f := fun K => decide (PySem.W.nsIn K mainGlobals "BadText" = some (some (.ref (He.ga K "BadText"))))) 1 19 rfl rfl)
theorem rw_a_CV {K : PySem.W.Frag} (c : HM.Says exs fds K) : PySem.W.nsIn K mainGlobals "VouchError" = some (some (.ref (He.ga K "VouchError"))) := of_decide_eq_true (c.row (f := fun K => decide (PySem.W.nsIn K mainGlobals "VouchError" = some (some (.ref (He.ga K "VouchError"))))) 2 0 rfl rfl)
theorem rw_a_CG {K : PySem.W.Frag} (c : HM.Says exs fds K) : PySem.W.nsIn K mainGlobals "BadGroup" = some (some (.ref (He.ga K "BadGroup"))) := of_decide_eq_true (c.row (f := fun K => decide (PySem.W.nsIn K mainGlobals "BadGroup" = some (some (.ref (He.ga K "BadGroup"))))) 2 1 rfl rfl)
theorem rw_a_CO {K : PySem.W.Frag} (c : HM.Says exs fds K) : PySem.W.nsIn K mainGlobals "BadOpening" = some (some (.ref (He.ga K "BadOpening"))) := of_decide_eq_true (c.row (f := fun K => decide (PySem.W.nsIn K mainGlobals "BadOpening" = some (some (.ref (He.ga K "BadOpening"))))) 2 2 rfl rfl)
theorem rw_a_CQ {K : PySem.W.Frag} (c : HM.Says exs fds K) : PySem.W.nsIn K mainGlobals "BadQuestion" = some (some (.ref (He.ga K "BadQuestion"))) := of_decide_eq_true (c.row (f := fun K => decide (PySem.W.nsIn K mainGlobals "BadQuestion" = some (some (.ref (He.ga K "BadQuestion"))))) 2 3 rfl rfl)
theorem rw_a_CR {K : PySem.W.Frag} (c : HM.Says exs fds K) : PySem.W.nsIn K mainGlobals "BadRequest" = some (some (.ref (He.ga K "BadRequest"))) := of_decide_eq_true (c.row (f := fun K => decide (PySem.W.nsIn K mainGlobals "BadRequest" = some (some (.ref (He.ga K "BadRequest"))))) 2 4 rfl rfl)
theorem rw_a_CU {K : PySem.W.Frag} (c : HM.Says exs fds K) : PySem.W.nsIn K mainGlobals "BadTurn" = some (some (.ref (He.ga K "BadTurn"))) := of_decide_eq_true (c.row (f := fun K => decide (PySem.W.nsIn K mainGlobals "BadTurn" = some (some (.ref (He.ga K "BadTurn"))))) 2 5 rfl rfl)
theorem rw_Qsa {K : PySem.W.Frag} (c : HM.Says exs fds K) : PySem.W.findIn K (.ref (He.ga K "BadText")) "__setattr__" = some (some (.builtin "object.__setattr__")) := of_decide_eq_true (c.row (f := fun K => decide (PySem.W.findIn K (.ref (He.ga K "BadText")) "__setattr__" = some (some (.builtin "object.__setattr__")))) 2 6 rfl rfl)
theorem rw_Qty {K : PySem.W.Frag} (c : HM.Says exs fds K) : PySem.W.typeIn K (.ref (He.ga K "BadText")) = some (.type "type") := of_decide_eq_true (c.row (f := fun K => decide (PySem.W.typeIn K (.ref (He.ga K "BadText")) = some (.type "type"))) 2 7 rfl rfl)
theorem rw_Qkc {K : PySem.W.Frag} (c : HM.Says exs fds K) : PySem.W.keepIn K (.ref (He.ga K "BadText")) = true := of_decide_eq_true (c.row (f := fun K => decide (PySem.W.keepIn K (.ref (He.ga K "BadText")) = true)) 2 8 rfl rfl)
theorem rw_Qwh {K : PySem.W.Frag} (c : HM.Says exs fds K) : PySem.W.findIn K (.ref (He.ga K "BadText")) "at" = some none := of_decide_eq_true (c.row (f := fun K => decide (PySem.W.findIn K (.ref (He.ga K "BadText")) "at" = some none)) 2 9 rfl rfl)
theorem rw_Qbe {K : PySem.W.Frag} (c : HM.Says exs fds K) : PySem.W.subIn K (.ref (He.ga K "BadText")) (.type "BaseException") = some true := of_decide_eq_true (c.row (f := fun K => decide (PySem.W.subIn K (.ref (He.ga K "BadText")) (.type "BaseException") = some true)) 2 10 rfl rfl)
theorem rw_Qga {K : PySem.W.Frag} (c : HM.Says exs fds K) : PySem.W.findIn K (.ref (He.ga K "BadText")) "__getattribute__" = some (some (.builtin "BaseException.__getattribute__")) := of_decide_eq_true (c.row (f := fun K => decide (PySem.W.findIn K (.ref (He.ga K "BadText")) "__getattribute__" = some (some (.builtin "BaseException.__getattribute__")))) 2 11 rfl rfl)
theorem rw_Qgg {K : PySem.W.Frag} (c : HM.Says exs fds K) : PySem.W.findIn K (.ref (He.ga K "BadText")) "__getattr__" = some none := of_decide_eq_true (c.row (f := fun K => decide (PySem.W.findIn K (.ref (He.ga K "BadText")) "__getattr__" = some none)) 2 12 rfl rfl)
theorem rw_Qhd {K : PySem.W.Frag} (c : HM.Says exs fds K) : PySem.W.hasDictIn K (He.ga K "BadText") = true := of_decide_eq_true (c.row (f := fun K => decide (PySem.W.hasDictIn K (He.ga K "BadText") = true)) 2 13 rfl rfl)
theorem rw_Qha {K : PySem.W.Frag} (c : HM.Says exs fds K) : PySem.W.findIn K (.ref (He.ga K "BadText")) "__class__" = some (some (.builtin "object.__class__")) := of_decide_eq_true (c.row (f := fun K => decide (PySem.W.findIn K (.ref (He.ga K "BadText")) "__class__" = some (some (.builtin "object.__class__")))) 2 14 rfl rfl)
theorem rw_Qhm {K : PySem.W.Frag} (c : HM.Says exs fds K) : PySem.W.mroIn K (He.ga K "BadText") (.type "object") = some true := of_decide_eq_true (c.row (f := fun K => decide (PySem.W.mroIn K (He.ga K "BadText") (.type "object") = some true)) 2 15 rfl rfl)
theorem rw_bV {K : PySem.W.Frag} (c : HM.Says exs fds K) : PySem.W.subIn K (.ref (He.ga K "VouchError")) (.type "BaseException") = some true := of_decide_eq_true (c.row (f := fun K => decide (PySem.W.subIn K (.ref (He.ga K "VouchError")) (.type "BaseException") = some true)) 2 16 rfl rfl)
theorem rw_iV {K : PySem.W.Frag} (c : HM.Says exs fds K) : PySem.W.isClsIn K (He.ga K "VouchError") = true := of_decide_eq_true (c.row (f := fun K => decide (PySem.W.isClsIn K (He.ga K "VouchError") = true)) 2 17 rfl rfl)
theorem rw_yV {K : PySem.W.Frag} (c : HM.Says exs fds K) : PySem.W.typeIn K (.ref (He.ga K "VouchError")) = some (.type "type") := of_decide_eq_true (c.row (f := fun K => decide (PySem.W.typeIn K (.ref (He.ga K "VouchError")) = some (.type "type"))) 2 18 rfl rfl)
theorem rw_zV {K : PySem.W.Frag} (c : HM.Says exs fds K) : PySem.W.subIn K (.ref (He.ga K "BadText")) (.ref (He.ga K "VouchError")) = some true := of_decide_eq_true (c.row (f := fun K => decide (PySem.W.subIn K (.ref (He.ga K "BadText")) (.ref (He.ga K "VouchError")) = some true)) 2 19 rfl rfl)
theorem rw_zQ {K : PySem.W.Frag} (c : HM.Says exs fds K) : PySem.W.subIn K (.ref (He.ga K "BadText")) (.ref (He.ga K "BadText")) = some true := of_decide_eq_true (c.row (f := fun K => decide (PySem.W.subIn K (.ref (He.ga K "BadText")) (.ref (He.ga K "BadText")) = some true)) 3 0 rfl rfl)
theorem rw_iG {K : PySem.W.Frag} (c : HM.Says exs fds K) : PySem.W.isClsIn K (He.ga K "BadGroup") = true := of_decide_eq_true (c.row (f := fun K => decide (PySem.W.isClsIn K (He.ga K "BadGroup") = true)) 3 1 rfl rfl)
theorem rw_yG {K : PySem.W.Frag} (c : HM.Says exs fds K) : PySem.W.typeIn K (.ref (He.ga K "BadGroup")) = some (.type "type") := of_decide_eq_true (c.row (f := fun K => decide (PySem.W.typeIn K (.ref (He.ga K "BadGroup")) = some (.type "type"))) 3 2 rfl rfl)
theorem rw_zG {K : PySem.W.Frag} (c : HM.Says exs fds K) : PySem.W.subIn K (.ref (He.ga K "BadText")) (.ref (He.ga K "BadGroup")) = some false := of_decide_eq_true (c.row (f := fun K => decide (PySem.W.subIn K (.ref (He.ga K "BadText")) (.ref (He.ga K "BadGroup")) = some false)) 3 3 rfl rfl)
theorem rw_iO {K : PySem.W.Frag} (c : HM.Says exs fds K) : PySem.W.isClsIn K (He.ga K "BadOpening") = true := of_decide_eq_true (c.row (f := fun K => decide (PySem.W.isClsIn K (He.ga K "BadOpening") = true)) 3 4 rfl rfl)
theorem rw_yO {K : PySem.W.Frag} (c : HM.Says exs fds K) : PySem.W.typeIn K (.ref (He.ga K "BadOpening")) = some (.type "type") := of_decide_eq_true (c.row (f := fun K => decide (PySem.W.typeIn K (.ref (He.ga K "BadOpening")) = some (.type "type"))) 3 5 rfl rfl)
theorem rw_zO {K : PySem.W.Frag} (c : HM.Says exs fds K) : PySem.W.subIn K (.ref (He.ga K "BadText")) (.ref (He.ga K "BadOpening")) = some false := of_decide_eq_true (c.row (f := fun K => decide (PySem.W.subIn K (.ref (He.ga K "BadText")) (.ref (He.ga K "BadOpening")) = some false)) 3 6 rfl rfl)
theorem rw_iS {K : PySem.W.Frag} (c : HM.Says exs fds K) : PySem.W.isClsIn K (He.ga K "BadQuestion") = true := of_decide_eq_true (c.row (f := fun K => decide (PySem.W.isClsIn K (He.ga K "BadQuestion") = true)) 3 7 rfl rfl)
theorem rw_yS {K : PySem.W.Frag} (c : HM.Says exs fds K) : PySem.W.typeIn K (.ref (He.ga K "BadQuestion")) = some (.type "type") := of_decide_eq_true (c.row (f := fun K => decide (PySem.W.typeIn K (.ref (He.ga K "BadQuestion")) = some (.type "type"))) 3 8 rfl rfl)
theorem rw_zS {K : PySem.W.Frag} (c : HM.Says exs fds K) : PySem.W.subIn K (.ref (He.ga K "BadText")) (.ref (He.ga K "BadQuestion")) = some false := of_decide_eq_true (c.row (f := fun K => decide (PySem.W.subIn K (.ref (He.ga K "BadText")) (.ref (He.ga K "BadQuestion")) = some false)) 3 9 rfl rfl)
theorem rw_iR {K : PySem.W.Frag} (c : HM.Says exs fds K) : PySem.W.isClsIn K (He.ga K "BadRequest") = true := of_decide_eq_true (c.row (f := fun K => decide (PySem.W.isClsIn K (He.ga K "BadRequest") = true)) 3 10 rfl rfl)
theorem rw_yR {K : PySem.W.Frag} (c : HM.Says exs fds K) : PySem.W.typeIn K (.ref (He.ga K "BadRequest")) = some (.type "type") := of_decide_eq_true (c.row (f := fun K => decide (PySem.W.typeIn K (.ref (He.ga K "BadRequest")) = some (.type "type"))) 3 11 rfl rfl)
theorem rw_zR {K : PySem.W.Frag} (c : HM.Says exs fds K) : PySem.W.subIn K (.ref (He.ga K "BadText")) (.ref (He.ga K "BadRequest")) = some false := of_decide_eq_true (c.row (f := fun K => decide (PySem.W.subIn K (.ref (He.ga K "BadText")) (.ref (He.ga K "BadRequest")) = some false)) 3 12 rfl rfl)
theorem rw_iU {K : PySem.W.Frag} (c : HM.Says exs fds K) : PySem.W.isClsIn K (He.ga K "BadTurn") = true := of_decide_eq_true (c.row (f := fun K => decide (PySem.W.isClsIn K (He.ga K "BadTurn") = true)) 3 13 rfl rfl)
theorem rw_yU {K : PySem.W.Frag} (c : HM.Says exs fds K) : PySem.W.typeIn K (.ref (He.ga K "BadTurn")) = some (.type "type") := of_decide_eq_true (c.row (f := fun K => decide (PySem.W.typeIn K (.ref (He.ga K "BadTurn")) = some (.type "type"))) 3 14 rfl rfl)
theorem rw_zU {K : PySem.W.Frag} (c : HM.Says exs fds K) : PySem.W.subIn K (.ref (He.ga K "BadText")) (.ref (He.ga K "BadTurn")) = some false := of_decide_eq_true (c.row (f := fun K => decide (PySem.W.subIn K (.ref (He.ga K "BadText")) (.ref (He.ga K "BadTurn")) = some false)) 3 15 rfl rfl)
theorem rw_a0 {K : PySem.W.Frag} (c : HM.Says exs fds K) : PySem.W.findIn K (.ref (He.ga K "Kind")) "__init__" = some (some (.ref (He.fAd K ("Kind", some "__init__")))) := of_decide_eq_true (c.row (f := fun K => decide (PySem.W.findIn K (.ref (He.ga K "Kind")) "__init__" = some (some (.ref (He.fAd K ("Kind", some "__init__")))))) 3 16 rfl rfl)
theorem rw_i0 {K : PySem.W.Frag} (c : HM.Says exs fds K) : PySem.W.isFn K (.ref (He.fAd K ("Kind", some "__init__"))) = true := of_decide_eq_true (c.row (f := fun K => decide (PySem.W.isFn K (.ref (He.fAd K ("Kind", some "__init__"))) = true)) 3 17 rfl rfl)
theorem rw_k0 {K : PySem.W.Frag} (c : HM.Says exs fds K) : PySem.W.keepIn K (.ref (He.fAd K ("Kind", some "__init__"))) = true := of_decide_eq_true (c.row (f := fun K => decide (PySem.W.keepIn K (.ref (He.fAd K ("Kind", some "__init__"))) = true)) 3 18 rfl rfl)
theorem rw_a1 {K : PySem.W.Frag} (c : HM.Says exs fds K) : PySem.W.nsIn K mainGlobals "_kept" = some (some (.ref (He.fAd K ("_kept", none)))) := of_decide_eq_true (c.row (f := fun K => decide (PySem.W.nsIn K mainGlobals "_kept" = some (some (.ref (He.fAd K ("_kept", none)))))) 3 19 rfl rfl)
theorem rw_k1 {K : PySem.W.Frag} (c : HM.Says exs fds K) : PySem.W.keepIn K (.ref (He.fAd K ("_kept", none))) = true := of_decide_eq_true (c.row (f := fun K => decide (PySem.W.keepIn K (.ref (He.fAd K ("_kept", none))) = true)) 4 0 rfl rfl)
theorem rw_a2 {K : PySem.W.Frag} (c : HM.Says exs fds K) : PySem.W.findIn K (.ref (He.ga K "Policy")) "__init__" = some (some (.ref (He.fAd K ("Policy", some "__init__")))) := of_decide_eq_true (c.row (f := fun K => decide (PySem.W.findIn K (.ref (He.ga K "Policy")) "__init__" = some (some (.ref (He.fAd K ("Policy", some "__init__")))))) 4 1 rfl rfl)
theorem rw_i2 {K : PySem.W.Frag} (c : HM.Says exs fds K) : PySem.W.isFn K (.ref (He.fAd K ("Policy", some "__init__"))) = true := of_decide_eq_true (c.row (f := fun K => decide (PySem.W.isFn K (.ref (He.fAd K ("Policy", some "__init__"))) = true)) 4 2 rfl rfl)
theorem rw_k2 {K : PySem.W.Frag} (c : HM.Says exs fds K) : PySem.W.keepIn K (.ref (He.fAd K ("Policy", some "__init__"))) = true := of_decide_eq_true (c.row (f := fun K => decide (PySem.W.keepIn K (.ref (He.fAd K ("Policy", some "__init__"))) = true)) 4 3 rfl rfl)
theorem rw_a3 {K : PySem.W.Frag} (c : HM.Says exs fds K) : PySem.W.nsIn K mainGlobals "_is_name" = some (some (.ref (He.fAd K ("_is_name", none)))) := of_decide_eq_true (c.row (f := fun K => decide (PySem.W.nsIn K mainGlobals "_is_name" = some (some (.ref (He.fAd K ("_is_name", none)))))) 4 4 rfl rfl)
theorem rw_k3 {K : PySem.W.Frag} (c : HM.Says exs fds K) : PySem.W.keepIn K (.ref (He.fAd K ("_is_name", none))) = true := of_decide_eq_true (c.row (f := fun K => decide (PySem.W.keepIn K (.ref (He.fAd K ("_is_name", none))) = true)) 4 5 rfl rfl)
theorem rw_a4 {K : PySem.W.Frag} (c : HM.Says exs fds K) : PySem.W.findIn K (.ref (He.ga K "Reader")) "__init__" = some (some (.ref (He.fAd K ("Reader", some "__init__")))) := of_decide_eq_true (c.row (f := fun K => decide (PySem.W.findIn K (.ref (He.ga K "Reader")) "__init__" = some (some (.ref (He.fAd K ("Reader", some "__init__")))))) 4 6 rfl rfl)
theorem rw_i4 {K : PySem.W.Frag} (c : HM.Says exs fds K) : PySem.W.isFn K (.ref (He.fAd K ("Reader", some "__init__"))) = true := of_decide_eq_true (c.row (f := fun K => decide (PySem.W.isFn K (.ref (He.fAd K ("Reader", some "__init__"))) = true)) 4 7 rfl rfl)
theorem rw_k4 {K : PySem.W.Frag} (c : HM.Says exs fds K) : PySem.W.keepIn K (.ref (He.fAd K ("Reader", some "__init__"))) = true := of_decide_eq_true (c.row (f := fun K => decide (PySem.W.keepIn K (.ref (He.fAd K ("Reader", some "__init__"))) = true)) 4 8 rfl rfl)
theorem rw_a5 {K : PySem.W.Frag} (c : HM.Says exs fds K) : PySem.W.findIn K (.ref (He.ga K "Reader")) "ahead" = some (some (.ref (He.fAd K ("Reader", some "ahead")))) := of_decide_eq_true (c.row (f := fun K => decide (PySem.W.findIn K (.ref (He.ga K "Reader")) "ahead" = some (some (.ref (He.fAd K ("Reader", some "ahead")))))) 4 9 rfl rfl)
theorem rw_i5 {K : PySem.W.Frag} (c : HM.Says exs fds K) : PySem.W.isFn K (.ref (He.fAd K ("Reader", some "ahead"))) = true := of_decide_eq_true (c.row (f := fun K => decide (PySem.W.isFn K (.ref (He.fAd K ("Reader", some "ahead"))) = true)) 4 10 rfl rfl)
theorem rw_k5 {K : PySem.W.Frag} (c : HM.Says exs fds K) : PySem.W.keepIn K (.ref (He.fAd K ("Reader", some "ahead"))) = true := of_decide_eq_true (c.row (f := fun K => decide (PySem.W.keepIn K (.ref (He.fAd K ("Reader", some "ahead"))) = true)) 4 11 rfl rfl)
theorem rw_a6 {K : PySem.W.Frag} (c : HM.Says exs fds K) : PySem.W.findIn K (.ref (He.ga K "Reader")) "take" = some (some (.ref (He.fAd K ("Reader", some "take")))) := of_decide_eq_true (c.row (f := fun K => decide (PySem.W.findIn K (.ref (He.ga K "Reader")) "take" = some (some (.ref (He.fAd K ("Reader", some "take")))))) 4 12 rfl rfl)
theorem rw_i6 {K : PySem.W.Frag} (c : HM.Says exs fds K) : PySem.W.isFn K (.ref (He.fAd K ("Reader", some "take"))) = true := of_decide_eq_true (c.row (f := fun K => decide (PySem.W.isFn K (.ref (He.fAd K ("Reader", some "take"))) = true)) 4 13 rfl rfl)
theorem rw_k6 {K : PySem.W.Frag} (c : HM.Says exs fds K) : PySem.W.keepIn K (.ref (He.fAd K ("Reader", some "take"))) = true := of_decide_eq_true (c.row (f := fun K => decide (PySem.W.keepIn K (.ref (He.fAd K ("Reader", some "take"))) = true)) 4 14 rfl rfl)
theorem rw_a7 {K : PySem.W.Frag} (c : HM.Says exs fds K) : PySem.W.findIn K (.ref (He.ga K "Reader")) "take_name" = some (some (.ref (He.fAd K ("Reader", some "take_name")))) := of_decide_eq_true (c.row (f := fun K => decide (PySem.W.findIn K (.ref (He.ga K "Reader")) "take_name" = some (some (.ref (He.fAd K ("Reader", some "take_name")))))) 4 15 rfl rfl)
theorem rw_i7 {K : PySem.W.Frag} (c : HM.Says exs fds K) : PySem.W.isFn K (.ref (He.fAd K ("Reader", some "take_name"))) = true := of_decide_eq_true (c.row (f := fun K => decide (PySem.W.isFn K (.ref (He.fAd K ("Reader", some "take_name"))) = true)) 4 16 rfl rfl)
theorem rw_k7 {K : PySem.W.Frag} (c : HM.Says exs fds K) : PySem.W.keepIn K (.ref (He.fAd K ("Reader", some "take_name"))) = true := of_decide_eq_true (c.row (f := fun K => decide (PySem.W.keepIn K (.ref (He.fAd K ("Reader", some "take_name"))) = true)) 4 17 rfl rfl)
theorem rw_a8 {K : PySem.W.Frag} (c : HM.Says exs fds K) : PySem.W.nsIn K mainGlobals "_values_of" = some (some (.ref (He.fAd K ("_values_of", none)))) := of_decide_eq_true (c.row (f := fun K => decide (PySem.W.nsIn K mainGlobals "_values_of" = some (some (.ref (He.fAd K ("_values_of", none)))))) 4 18 rfl rfl)
theorem rw_k8 {K : PySem.W.Frag} (c : HM.Says exs fds K) : PySem.W.keepIn K (.ref (He.fAd K ("_values_of", none))) = true := of_decide_eq_true (c.row (f := fun K => decide (PySem.W.keepIn K (.ref (He.fAd K ("_values_of", none))) = true)) 4 19 rfl rfl)
theorem rw_a9 {K : PySem.W.Frag} (c : HM.Says exs fds K) : PySem.W.nsIn K mainGlobals "_sayable" = some (some (.ref (He.fAd K ("_sayable", none)))) := of_decide_eq_true (c.row (f := fun K => decide (PySem.W.nsIn K mainGlobals "_sayable" = some (some (.ref (He.fAd K ("_sayable", none)))))) 5 0 rfl rfl)
theorem rw_k9 {K : PySem.W.Frag} (c : HM.Says exs fds K) : PySem.W.keepIn K (.ref (He.fAd K ("_sayable", none))) = true := of_decide_eq_true (c.row (f := fun K => decide (PySem.W.keepIn K (.ref (He.fAd K ("_sayable", none))) = true)) 5 1 rfl rfl)
theorem rw_a10 {K : PySem.W.Frag} (c : HM.Says exs fds K) : PySem.W.nsIn K mainGlobals "_written" = some (some (.ref (He.fAd K ("_written", none)))) := of_decide_eq_true (c.row (f := fun K => decide (PySem.W.nsIn K mainGlobals "_written" = some (some (.ref (He.fAd K ("_written", none)))))) 5 2 rfl rfl)
theorem rw_k10 {K : PySem.W.Frag} (c : HM.Says exs fds K) : PySem.W.keepIn K (.ref (He.fAd K ("_written", none))) = true := of_decide_eq_true (c.row (f := fun K => decide (PySem.W.keepIn K (.ref (He.fAd K ("_written", none))) = true)) 5 3 rfl rfl)
theorem rw_a11 {K : PySem.W.Frag} (c : HM.Says exs fds K) : PySem.W.nsIn K mainGlobals "_read_value" = some (some (.ref (He.fAd K ("_read_value", none)))) := of_decide_eq_true (c.row (f := fun K => decide (PySem.W.nsIn K mainGlobals "_read_value" = some (some (.ref (He.fAd K ("_read_value", none)))))) 5 4 rfl rfl)
theorem rw_k11 {K : PySem.W.Frag} (c : HM.Says exs fds K) : PySem.W.keepIn K (.ref (He.fAd K ("_read_value", none))) = true := of_decide_eq_true (c.row (f := fun K => decide (PySem.W.keepIn K (.ref (He.fAd K ("_read_value", none))) = true)) 5 5 rfl rfl)
theorem rw_a12 {K : PySem.W.Frag} (c : HM.Says exs fds K) : PySem.W.nsIn K mainGlobals "_read_number" = some (some (.ref (He.fAd K ("_read_number", none)))) := of_decide_eq_true (c.row (f := fun K => decide (PySem.W.nsIn K mainGlobals "_read_number" = some (some (.ref (He.fAd K ("_read_number", none)))))) 5 6 rfl rfl)
theorem rw_k12 {K : PySem.W.Frag} (c : HM.Says exs fds K) : PySem.W.keepIn K (.ref (He.fAd K ("_read_number", none))) = true := of_decide_eq_true (c.row (f := fun K => decide (PySem.W.keepIn K (.ref (He.fAd K ("_read_number", none))) = true)) 5 7 rfl rfl)
theorem rw_a13 {K : PySem.W.Frag} (c : HM.Says exs fds K) : PySem.W.nsIn K mainGlobals "_read_numbers" = some (some (.ref (He.fAd K ("_read_numbers", none)))) := of_decide_eq_true (c.row (f := fun K => decide (PySem.W.nsIn K mainGlobals "_read_numbers" = some (some (.ref (He.fAd K ("_read_numbers", none)))))) 5 8 rfl rfl)
theorem rw_k13 {K : PySem.W.Frag} (c : HM.Says exs fds K) : PySem.W.keepIn K (.ref (He.fAd K ("_read_numbers", none))) = true := of_decide_eq_true (c.row (f := fun K => decide (PySem.W.keepIn K (.ref (He.fAd K ("_read_numbers", none))) = true)) 5 9 rfl rfl)
theorem rw_a14 {K : PySem.W.Frag} (c : HM.Says exs fds K) : PySem.W.nsIn K mainGlobals "_read_condition" = some (some (.ref (He.fAd K ("_read_condition", none)))) := of_decide_eq_true (c.row (f := fun K => decide (PySem.W.nsIn K mainGlobals "_read_condition" = some (some (.ref (He.fAd K ("_read_condition", none)))))) 5 10 rfl rfl)
theorem rw_k14 {K : PySem.W.Frag} (c : HM.Says exs fds K) : PySem.W.keepIn K (.ref (He.fAd K ("_read_condition", none))) = true := of_decide_eq_true (c.row (f := fun K => decide (PySem.W.keepIn K (.ref (He.fAd K ("_read_condition", none))) = true)) 5 11 rfl rfl)
theorem rw_a15 {K : PySem.W.Frag} (c : HM.Says exs fds K) : PySem.W.nsIn K mainGlobals "_read_card" = some (some (.ref (He.fAd K ("_read_card", none)))) := of_decide_eq_true (c.row (f := fun K => decide (PySem.W.nsIn K mainGlobals "_read_card" = some (some (.ref (He.fAd K ("_read_card", none)))))) 5 12 rfl rfl)
theorem rw_k15 {K : PySem.W.Frag} (c : HM.Says exs fds K) : PySem.W.keepIn K (.ref (He.fAd K ("_read_card", none))) = true := of_decide_eq_true (c.row (f := fun K => decide (PySem.W.keepIn K (.ref (He.fAd K ("_read_card", none))) = true)) 5 13 rfl rfl)
theorem rw_a16 {K : PySem.W.Frag} (c : HM.Says exs fds K) : PySem.W.nsIn K mainGlobals "read_policy" = some (some (.ref (He.fAd K ("read_policy", none)))) := of_decide_eq_true (c.row (f := fun K => decide (PySem.W.nsIn K mainGlobals "read_policy" = some (some (.ref (He.fAd K ("read_policy", none)))))) 5 14 rfl rfl)
theorem rw_k16 {K : PySem.W.Frag} (c : HM.Says exs fds K) : PySem.W.keepIn K (.ref (He.fAd K ("read_policy", none))) = true := of_decide_eq_true (c.row (f := fun K => decide (PySem.W.keepIn K (.ref (He.fAd K ("read_policy", none))) = true)) 5 15 rfl rfl)
theorem rw_a17 {K : PySem.W.Frag} (c : HM.Says exs fds K) : PySem.W.nsIn K mainGlobals "policy_text" = some (some (.ref (He.fAd K ("policy_text", none)))) := of_decide_eq_true (c.row (f := fun K => decide (PySem.W.nsIn K mainGlobals "policy_text" = some (some (.ref (He.fAd K ("policy_text", none)))))) 5 16 rfl rfl)
theorem rw_k17 {K : PySem.W.Frag} (c : HM.Says exs fds K) : PySem.W.keepIn K (.ref (He.fAd K ("policy_text", none))) = true := of_decide_eq_true (c.row (f := fun K => decide (PySem.W.keepIn K (.ref (He.fAd K ("policy_text", none))) = true)) 5 17 rfl rfl)
theorem rw_a18 {K : PySem.W.Frag} (c : HM.Says exs fds K) : PySem.W.findIn K (.ref (He.ga K "BadText")) "__init__" = some (some (.ref (He.fAd K ("BadText", some "__init__")))) := of_decide_eq_true (c.row (f := fun K => decide (PySem.W.findIn K (.ref (He.ga K "BadText")) "__init__" = some (some (.ref (He.fAd K ("BadText", some "__init__")))))) 5 18 rfl rfl)
theorem rw_i18 {K : PySem.W.Frag} (c : HM.Says exs fds K) : PySem.W.isFn K (.ref (He.fAd K ("BadText", some "__init__"))) = true := of_decide_eq_true (c.row (f := fun K => decide (PySem.W.isFn K (.ref (He.fAd K ("BadText", some "__init__"))) = true)) 5 19 rfl rfl)
theorem rw_k18 {K : PySem.W.Frag} (c : HM.Says exs fds K) : PySem.W.keepIn K (.ref (He.fAd K ("BadText", some "__init__"))) = true := of_decide_eq_true (c.row (f := fun K => decide (PySem.W.keepIn K (.ref (He.fAd K ("BadText", some "__init__"))) = true)) 6 0 rfl rfl)
theorem rw_a19 {K : PySem.W.Frag} (c : HM.Says exs fds K) : PySem.W.nsIn K mainGlobals "_law_pool" = some (some (.ref (He.fAd K ("_law_pool", none)))) := of_decide_eq_true (c.row (f := fun K => decide (PySem.W.nsIn K mainGlobals "_law_pool" = some (some (.ref (He.fAd K ("_law_pool", none)))))) 6 1 rfl rfl)
theorem rw_k19 {K : PySem.W.Frag} (c : HM.Says exs fds K) : PySem.W.keepIn K (.ref (He.fAd K ("_law_pool", none))) = true := of_decide_eq_true (c.row (f := fun K => decide (PySem.W.keepIn K (.ref (He.fAd K ("_law_pool", none))) = true)) 6 2 rfl rfl)
theorem rw_a20 {K : PySem.W.Frag} (c : HM.Says exs fds K) : PySem.W.nsIn K mainGlobals "_law_draw" = some (some (.ref (He.fAd K ("_law_draw", none)))) := of_decide_eq_true (c.row (f := fun K => decide (PySem.W.nsIn K mainGlobals "_law_draw" = some (some (.ref (He.fAd K ("_law_draw", none)))))) 6 3 rfl rfl)
theorem rw_k20 {K : PySem.W.Frag} (c : HM.Says exs fds K) : PySem.W.keepIn K (.ref (He.fAd K ("_law_draw", none))) = true := of_decide_eq_true (c.row (f := fun K => decide (PySem.W.keepIn K (.ref (He.fAd K ("_law_draw", none))) = true)) 6 4 rfl rfl)
theorem rw_a21 {K : PySem.W.Frag} (c : HM.Says exs fds K) : PySem.W.nsIn K mainGlobals "_law_same" = some (some (.ref (He.fAd K ("_law_same", none)))) := of_decide_eq_true (c.row (f := fun K => decide (PySem.W.nsIn K mainGlobals "_law_same" = some (some (.ref (He.fAd K ("_law_same", none)))))) 6 5 rfl rfl)
theorem rw_k21 {K : PySem.W.Frag} (c : HM.Says exs fds K) : PySem.W.keepIn K (.ref (He.fAd K ("_law_same", none))) = true := of_decide_eq_true (c.row (f := fun K => decide (PySem.W.keepIn K (.ref (He.fAd K ("_law_same", none))) = true)) 6 6 rfl rfl)
theorem rw_a22 {K : PySem.W.Frag} (c : HM.Says exs fds K) : PySem.W.nsIn K mainGlobals "_law_name" = some (some (.ref (He.fAd K ("_law_name", none)))) := of_decide_eq_true (c.row (f := fun K => decide (PySem.W.nsIn K mainGlobals "_law_name" = some (some (.ref (He.fAd K ("_law_name", none)))))) 6 7 rfl rfl)
theorem rw_k22 {K : PySem.W.Frag} (c : HM.Says exs fds K) : PySem.W.keepIn K (.ref (He.fAd K ("_law_name", none))) = true := of_decide_eq_true (c.row (f := fun K => decide (PySem.W.keepIn K (.ref (He.fAd K ("_law_name", none))) = true)) 6 8 rfl rfl)
theorem rw_a23 {K : PySem.W.Frag} (c : HM.Says exs fds K) : PySem.W.nsIn K mainGlobals "_law_unlike" = some (some (.ref (He.fAd K ("_law_unlike", none)))) := of_decide_eq_true (c.row (f := fun K => decide (PySem.W.nsIn K mainGlobals "_law_unlike" = some (some (.ref (He.fAd K ("_law_unlike", none)))))) 6 9 rfl rfl)
theorem rw_k23 {K : PySem.W.Frag} (c : HM.Says exs fds K) : PySem.W.keepIn K (.ref (He.fAd K ("_law_unlike", none))) = true := of_decide_eq_true (c.row (f := fun K => decide (PySem.W.keepIn K (.ref (He.fAd K ("_law_unlike", none))) = true)) 6 10 rfl rfl)
theorem rw_a24 {K : PySem.W.Frag} (c : HM.Says exs fds K) : PySem.W.nsIn K mainGlobals "_law_all_kinds" = some (some (.ref (He.fAd K ("_law_all_kinds", none)))) := of_decide_eq_true (c.row (f := fun K => decide (PySem.W.nsIn K mainGlobals "_law_all_kinds" = some (some (.ref (He.fAd K ("_law_all_kinds", none)))))) 6 11 rfl rfl)
theorem rw_k24 {K : PySem.W.Frag} (c : HM.Says exs fds K) : PySem.W.keepIn K (.ref (He.fAd K ("_law_all_kinds", none))) = true := of_decide_eq_true (c.row (f := fun K => decide (PySem.W.keepIn K (.ref (He.fAd K ("_law_all_kinds", none))) = true)) 6 12 rfl rfl)
theorem rw_a25 {K : PySem.W.Frag} (c : HM.Says exs fds K) : PySem.W.nsIn K mainGlobals "_law_pairs" = some (some (.ref (He.fAd K ("_law_pairs", none)))) := of_decide_eq_true (c.row (f := fun K => decide (PySem.W.nsIn K mainGlobals "_law_pairs" = some (some (.ref (He.fAd K ("_law_pairs", none)))))) 6 13 rfl rfl)
theorem rw_k25 {K : PySem.W.Frag} (c : HM.Says exs fds K) : PySem.W.keepIn K (.ref (He.fAd K ("_law_pairs", none))) = true := of_decide_eq_true (c.row (f := fun K => decide (PySem.W.keepIn K (.ref (He.fAd K ("_law_pairs", none))) = true)) 6 14 rfl rfl)
theorem rw_a26 {K : PySem.W.Frag} (c : HM.Says exs fds K) : PySem.W.nsIn K mainGlobals "_law_policy" = some (some (.ref (He.fAd K ("_law_policy", none)))) := of_decide_eq_true (c.row (f := fun K => decide (PySem.W.nsIn K mainGlobals "_law_policy" = some (some (.ref (He.fAd K ("_law_policy", none)))))) 6 15 rfl rfl)
theorem rw_k26 {K : PySem.W.Frag} (c : HM.Says exs fds K) : PySem.W.keepIn K (.ref (He.fAd K ("_law_policy", none))) = true := of_decide_eq_true (c.row (f := fun K => decide (PySem.W.keepIn K (.ref (He.fAd K ("_law_policy", none))) = true)) 6 16 rfl rfl)
theorem rw_a27 {K : PySem.W.Frag} (c : HM.Says exs fds K) : PySem.W.nsIn K mainGlobals "_law_words" = some (some (.ref (He.fAd K ("_law_words", none)))) := of_decide_eq_true (c.row (f := fun K => decide (PySem.W.nsIn K mainGlobals "_law_words" = some (some (.ref (He.fAd K ("_law_words", none)))))) 6 17 rfl rfl)
theorem rw_k27 {K : PySem.W.Frag} (c : HM.Says exs fds K) : PySem.W.keepIn K (.ref (He.fAd K ("_law_words", none))) = true := of_decide_eq_true (c.row (f := fun K => decide (PySem.W.keepIn K (.ref (He.fAd K ("_law_words", none))) = true)) 6 18 rfl rfl)
theorem rw_a28 {K : PySem.W.Frag} (c : HM.Says exs fds K) : PySem.W.nsIn K mainGlobals "_law_is_name" = some (some (.ref (He.fAd K ("_law_is_name", none)))) := of_decide_eq_true (c.row (f := fun K => decide (PySem.W.nsIn K mainGlobals "_law_is_name" = some (some (.ref (He.fAd K ("_law_is_name", none)))))) 6 19 rfl rfl)
theorem rw_k28 {K : PySem.W.Frag} (c : HM.Says exs fds K) : PySem.W.keepIn K (.ref (He.fAd K ("_law_is_name", none))) = true := of_decide_eq_true (c.row (f := fun K => decide (PySem.W.keepIn K (.ref (He.fAd K ("_law_is_name", none))) = true)) 7 0 rfl rfl)
theorem rw_a29 {K : PySem.W.Frag} (c : HM.Says exs fds K) : PySem.W.nsIn K mainGlobals "_law_is_number" = some (some (.ref (He.fAd K ("_law_is_number", none)))) := of_decide_eq_true (c.row (f := fun K => decide (PySem.W.nsIn K mainGlobals "_law_is_number" = some (some (.ref (He.fAd K ("_law_is_number", none)))))) 7 1 rfl rfl)
theorem rw_k29 {K : PySem.W.Frag} (c : HM.Says exs fds K) : PySem.W.keepIn K (.ref (He.fAd K ("_law_is_number", none))) = true := of_decide_eq_true (c.row (f := fun K => decide (PySem.W.keepIn K (.ref (He.fAd K ("_law_is_number", none))) = true)) 7 2 rfl rfl)
theorem rw_a30 {K : PySem.W.Frag} (c : HM.Says exs fds K) : PySem.W.nsIn K mainGlobals "_law_start" = some (some (.ref (He.fAd K ("_law_start", none)))) := of_decide_eq_true (c.row (f := fun K => decide (PySem.W.nsIn K mainGlobals "_law_start" = some (some (.ref (He.fAd K ("_law_start", none)))))) 7 3 rfl rfl)
theorem rw_k30 {K : PySem.W.Frag} (c : HM.Says exs fds K) : PySem.W.keepIn K (.ref (He.fAd K ("_law_start", none))) = true := of_decide_eq_true (c.row (f := fun K => decide (PySem.W.keepIn K (.ref (He.fAd K ("_law_start", none))) = true)) 7 4 rfl rfl)
theorem rw_a31 {K : PySem.W.Frag} (c : HM.Says exs fds K) : PySem.W.nsIn K mainGlobals "_law_picks" = some (some (.ref (He.fAd K ("_law_picks", none)))) := of_decide_eq_true (c.row (f := fun K => decide (PySem.W.nsIn K mainGlobals "_law_picks" = some (some (.ref (He.fAd K ("_law_picks", none)))))) 7 5 rfl rfl)
theorem rw_k31 {K : PySem.W.Frag} (c : HM.Says exs fds K) : PySem.W.keepIn K (.ref (He.fAd K ("_law_picks", none))) = true := of_decide_eq_true (c.row (f := fun K => decide (PySem.W.keepIn K (.ref (He.fAd K ("_law_picks", none))) = true)) 7 6 rfl rfl)
theorem rw_a32 {K : PySem.W.Frag} (c : HM.Says exs fds K) : PySem.W.nsIn K mainGlobals "_law_cards" = some (some (.ref (He.fAd K ("_law_cards", none)))) := of_decide_eq_true (c.row (f := fun K => decide (PySem.W.nsIn K mainGlobals "_law_cards" = some (some (.ref (He.fAd K ("_law_cards", none)))))) 7 7 rfl rfl)
theorem rw_k32 {K : PySem.W.Frag} (c : HM.Says exs fds K) : PySem.W.keepIn K (.ref (He.fAd K ("_law_cards", none))) = true := of_decide_eq_true (c.row (f := fun K => decide (PySem.W.keepIn K (.ref (He.fAd K ("_law_cards", none))) = true)) 7 8 rfl rfl)
theorem rw_a33 {K : PySem.W.Frag} (c : HM.Says exs fds K) : PySem.W.nsIn K mainGlobals "_law_next" = some (some (.ref (He.fAd K ("_law_next", none)))) := of_decide_eq_true (c.row (f := fun K => decide (PySem.W.nsIn K mainGlobals "_law_next" = some (some (.ref (He.fAd K ("_law_next", none)))))) 7 9 rfl rfl)
theorem rw_k33 {K : PySem.W.Frag} (c : HM.Says exs fds K) : PySem.W.keepIn K (.ref (He.fAd K ("_law_next", none))) = true := of_decide_eq_true (c.row (f := fun K => decide (PySem.W.keepIn K (.ref (He.fAd K ("_law_next", none))) = true)) 7 10 rfl rfl)
theorem rw_a34 {K : PySem.W.Frag} (c : HM.Says exs fds K) : PySem.W.nsIn K mainGlobals "_law_wrong" = some (some (.ref (He.fAd K ("_law_wrong", none)))) := of_decide_eq_true (c.row (f := fun K => decide (PySem.W.nsIn K mainGlobals "_law_wrong" = some (some (.ref (He.fAd K ("_law_wrong", none)))))) 7 11 rfl rfl)
theorem rw_k34 {K : PySem.W.Frag} (c : HM.Says exs fds K) : PySem.W.keepIn K (.ref (He.fAd K ("_law_wrong", none))) = true := of_decide_eq_true (c.row (f := fun K => decide (PySem.W.keepIn K (.ref (He.fAd K ("_law_wrong", none))) = true)) 7 12 rfl rfl)
theorem rw_a35 {K : PySem.W.Frag} (c : HM.Says exs fds K) : PySem.W.nsIn K mainGlobals "_law_menu" = some (some (.ref (He.fAd K ("_law_menu", none)))) := of_decide_eq_true (c.row (f := fun K => decide (PySem.W.nsIn K mainGlobals "_law_menu" = some (some (.ref (He.fAd K ("_law_menu", none)))))) 7 13 rfl rfl)
theorem rw_k35 {K : PySem.W.Frag} (c : HM.Says exs fds K) : PySem.W.keepIn K (.ref (He.fAd K ("_law_menu", none))) = true := of_decide_eq_true (c.row (f := fun K => decide (PySem.W.keepIn K (.ref (He.fAd K ("_law_menu", none))) = true)) 7 14 rfl rfl)
theorem rw_a36 {K : PySem.W.Frag} (c : HM.Says exs fds K) : PySem.W.nsIn K mainGlobals "_law_changed" = some (some (.ref (He.fAd K ("_law_changed", none)))) := of_decide_eq_true (c.row (f := fun K => decide (PySem.W.nsIn K mainGlobals "_law_changed" = some (some (.ref (He.fAd K ("_law_changed", none)))))) 7 15 rfl rfl)
theorem rw_k36 {K : PySem.W.Frag} (c : HM.Says exs fds K) : PySem.W.keepIn K (.ref (He.fAd K ("_law_changed", none))) = true := of_decide_eq_true (c.row (f := fun K => decide (PySem.W.keepIn K (.ref (He.fAd K ("_law_changed", none))) = true)) 7 16 rfl rfl)
theorem rw_a37 {K : PySem.W.Frag} (c : HM.Says exs fds K) : PySem.W.nsIn K mainGlobals "_law_walked" = some (some (.ref (He.fAd K ("_law_walked", none)))) := of_decide_eq_true (c.row (f := fun K => decide (PySem.W.nsIn K mainGlobals "_law_walked" = some (some (.ref (He.fAd K ("_law_walked", none)))))) 7 17 rfl rfl)
theorem rw_k37 {K : PySem.W.Frag} (c : HM.Says exs fds K) : PySem.W.keepIn K (.ref (He.fAd K ("_law_walked", none))) = true := of_decide_eq_true (c.row (f := fun K => decide (PySem.W.keepIn K (.ref (He.fAd K ("_law_walked", none))) = true)) 7 18 rfl rfl)
theorem rw_a38 {K : PySem.W.Frag} (c : HM.Says exs fds K) : PySem.W.nsIn K mainGlobals "law" = some (some (.ref (He.fAd K ("law", none)))) := of_decide_eq_true (c.row (f := fun K => decide (PySem.W.nsIn K mainGlobals "law" = some (some (.ref (He.fAd K ("law", none)))))) 7 19 rfl rfl)
theorem rw_k38 {K : PySem.W.Frag} (c : HM.Says exs fds K) : PySem.W.keepIn K (.ref (He.fAd K ("law", none))) = true := of_decide_eq_true (c.row (f := fun K => decide (PySem.W.keepIn K (.ref (He.fAd K ("law", none))) = true)) 8 0 rfl rfl)
theorem rw_z_isinstance {K : PySem.W.Frag} (c : HM.Says exs fds K) : PySem.W.nsIn K mainGlobals "isinstance" = some none := of_decide_eq_true (c.row (f := fun K => decide (PySem.W.nsIn K mainGlobals "isinstance" = some none)) 8 1 rfl rfl)
theorem rw_z_len {K : PySem.W.Frag} (c : HM.Says exs fds K) : PySem.W.nsIn K mainGlobals "len" = some none := of_decide_eq_true (c.row (f := fun K => decide (PySem.W.nsIn K mainGlobals "len" = some none)) 8 2 rfl rfl)
theorem rw_z_sum {K : PySem.W.Frag} (c : HM.Says exs fds K) : PySem.W.nsIn K mainGlobals "sum" = some none := of_decide_eq_true (c.row (f := fun K => decide (PySem.W.nsIn K mainGlobals "sum" = some none)) 8 3 rfl rfl)
theorem rw_z_max {K : PySem.W.Frag} (c : HM.Says exs fds K) : PySem.W.nsIn K mainGlobals "max" = some none := of_decide_eq_true (c.row (f := fun K => decide (PySem.W.nsIn K mainGlobals "max" = some none)) 8 4 rfl rfl)
theorem rw_z_min {K : PySem.W.Frag} (c : HM.Says exs fds K) : PySem.W.nsIn K mainGlobals "min" = some none := of_decide_eq_true (c.row (f := fun K => decide (PySem.W.nsIn K mainGlobals "min" = some none)) 8 5 rfl rfl)
theorem rw_z_abs {K : PySem.W.Frag} (c : HM.Says exs fds K) : PySem.W.nsIn K mainGlobals "abs" = some none := of_decide_eq_true (c.row (f := fun K => decide (PySem.W.nsIn K mainGlobals "abs" = some none)) 8 6 rfl rfl)
theorem rw_z_any {K : PySem.W.Frag} (c : HM.Says exs fds K) : PySem.W.nsIn K mainGlobals "any" = some none := of_decide_eq_true (c.row (f := fun K => decide (PySem.W.nsIn K mainGlobals "any" = some none)) 8 7 rfl rfl)
theorem rw_z_all {K : PySem.W.Frag} (c : HM.Says exs fds K) : PySem.W.nsIn K mainGlobals "all" = some none := of_decide_eq_true (c.row (f := fun K => decide (PySem.W.nsIn K mainGlobals "all" = some none)) 8 8 rfl rfl)
theorem rw_z_sorted {K : PySem.W.Frag} (c : HM.Says exs fds K) : PySem.W.nsIn K mainGlobals "sorted" = some none := of_decide_eq_true (c.row (f := fun K => decide (PySem.W.nsIn K mainGlobals "sorted" = some none)) 8 9 rfl rfl)
theorem rw_z_int {K : PySem.W.Frag} (c : HM.Says exs fds K) : PySem.W.nsIn K mainGlobals "int" = some none := of_decide_eq_true (c.row (f := fun K => decide (PySem.W.nsIn K mainGlobals "int" = some none)) 8 10 rfl rfl)
theorem rw_z_bool {K : PySem.W.Frag} (c : HM.Says exs fds K) : PySem.W.nsIn K mainGlobals "bool" = some none := of_decide_eq_true (c.row (f := fun K => decide (PySem.W.nsIn K mainGlobals "bool" = some none)) 8 11 rfl rfl)
theorem rw_z_str {K : PySem.W.Frag} (c : HM.Says exs fds K) : PySem.W.nsIn K mainGlobals "str" = some none := of_decide_eq_true (c.row (f := fun K => decide (PySem.W.nsIn K mainGlobals "str" = some none)) 8 12 rfl rfl)
theorem rw_z_list {K : PySem.W.Frag} (c : HM.Says exs fds K) : PySem.W.nsIn K mainGlobals "list" = some none := of_decide_eq_true (c.row (f := fun K => decide (PySem.W.nsIn K mainGlobals "list" = some none)) 8 13 rfl rfl)
theorem rw_z_tuple {K : PySem.W.Frag} (c : HM.Says exs fds K) : PySem.W.nsIn K mainGlobals "tuple" = some none := of_decide_eq_true (c.row (f := fun K => decide (PySem.W.nsIn K mainGlobals "tuple" = some none)) 8 14 rfl rfl)
theorem rw_z_dict {K : PySem.W.Frag} (c : HM.Says exs fds K) : PySem.W.nsIn K mainGlobals "dict" = some none := of_decide_eq_true (c.row (f := fun K => decide (PySem.W.nsIn K mainGlobals "dict" = some none)) 8 15 rfl rfl)
theorem rw_z_range {K : PySem.W.Frag} (c : HM.Says exs fds K) : PySem.W.nsIn K mainGlobals "range" = some none := of_decide_eq_true (c.row (f := fun K => decide (PySem.W.nsIn K mainGlobals "range" = some none)) 8 16 rfl rfl)
theorem rw_z_enumerate {K : PySem.W.Frag} (c : HM.Says exs fds K) : PySem.W.nsIn K mainGlobals "enumerate" = some none := of_decide_eq_true (c.row (f := fun K => decide (PySem.W.nsIn K mainGlobals "enumerate" = some none)) 8 17 rfl rfl)
theorem rw_z_zip {K : PySem.W.Frag} (c : HM.Says exs fds K) : PySem.W.nsIn K mainGlobals "zip" = some none := of_decide_eq_true (c.row (f := fun K => decide (PySem.W.nsIn K mainGlobals "zip" = some none)) 8 18 rfl rfl)
theorem rw_x_Q {K : PySem.W.Frag} (c : HM.Says exs fds K) : HM.excB K (He.ga K "BadText") = true := of_decide_eq_true (c.row (f := fun K => decide (HM.excB K (He.ga K "BadText") = true)) 8 19 rfl rfl)
set_option maxHeartbeats 0 in
theorem fin {l : PySem.W.OpenLaw} {w : World} {K : PySem.W.Frag} {h : Heap} {mg : Str → Option Value} {fa : Addr} (X : K.In h) (G : h.Ns mainGlobals mg) (hfa : mg "law" = some (.ref fa)) (c : HM.Says exs fds K) :
    ∃ fd : FuncData, (∀ (s : Shared) (v : Value), BindsTo s fd ⟨[v], []⟩ [("script", v)]) ∧ ∀ base : Heap, K.In base → base.Ns mainGlobals mg → FnOk l.prog w K mg base CX0 24 fa fd ["script"] (spLaw K) := by
  obtain ⟨oc0, od0, sl0, kV0, dc0, pm0, an0, cd0, ct0, l0, c0⟩ := c.def_ 0 (d := fd0) rfl
  obtain ⟨oc1, od1, sl1, kV1, dc1, pm1, an1, cd1, ct1, l1, c1⟩ := c.def_ 1 (d := fd1) rfl
  obtain ⟨oc2, od2, sl2, kV2, dc2, pm2, an2, cd2, ct2, l2, c2⟩ := c.def_ 2 (d := fd2) rfl
  obtain ⟨oc3, od3, sl3, kV3, dc3, pm3, an3, cd3, ct3, l3, c3⟩ := c.def_ 3 (d := fd3) rfl
  obtain ⟨oc4, od4, sl4, kV4, dc4, pm4, an4, cd4, ct4, l4, c4⟩ := c.def_ 4 (d := fd4) rfl
  obtain ⟨oc5, od5, sl5, kV5, dc5, pm5, an5, cd5, ct5, l5, c5⟩ := c.def_ 5 (d := fd5) rfl
  obtain ⟨oc6, od6, sl6, kV6, dc6, pm6, an6, cd6, ct6, l6, c6⟩ := c.def_ 6 (d := fd6) rfl
  obtain ⟨oc7, od7, sl7, kV7, dc7, pm7, an7, cd7, ct7, l7, c7⟩ := c.def_ 7 (d := fd7) rfl
  obtain ⟨oc8, od8, sl8, kV8, dc8, pm8, an8, cd8, ct8, l8, c8⟩ := c.def_ 8 (d := fd8) rfl
  obtain ⟨oc9, od9, sl9, kV9, dc9, pm9, an9, cd9, ct9, l9, c9⟩ := c.def_ 9 (d := fd9) rfl
  obtain ⟨oc10, od10, sl10, kV10, dc10, pm10, an10, cd10, ct10, l10, c10⟩ := c.def_ 10 (d := fd10) rfl
  obtain ⟨oc11, od11, sl11, kV11, dc11, pm11, an11, cd11, ct11, l11, c11⟩ := c.def_ 11 (d := fd11) rfl
  obtain ⟨oc12, od12, sl12, kV12, dc12, pm12, an12, cd12, ct12, l12, c12⟩ := c.def_ 12 (d := fd12) rfl
  obtain ⟨oc13, od13, sl13, kV13, dc13, pm13, an13, cd13, ct13, l13, c13⟩ := c.def_ 13 (d := fd13) rfl
  obtain ⟨oc14, od14, sl14, kV14, dc14, pm14, an14, cd14, ct14, l14, c14⟩ := c.def_ 14 (d := fd14) rfl
  obtain ⟨oc15, od15, sl15, kV15, dc15, pm15, an15, cd15, ct15, l15, c15⟩ := c.def_ 15 (d := fd15) rfl
  obtain ⟨oc16, od16, sl16, kV16, dc16, pm16, an16, cd16, ct16, l16, c16⟩ := c.def_ 16 (d := fd16) rfl
  obtain ⟨oc17, od17, sl17, kV17, dc17, pm17, an17, cd17, ct17, l17, c17⟩ := c.def_ 17 (d := fd17) rfl
  obtain ⟨oc18, od18, sl18, kV18, dc18, pm18, an18, cd18, ct18, l18, c18⟩ := c.def_ 18 (d := fd18) rfl
  obtain ⟨oc19, od19, sl19, kV19, dc19, pm19, an19, cd19, ct19, l19, c19⟩ := c.def_ 19 (d := fd19) rfl
  obtain ⟨oc20, od20, sl20, kV20, dc20, pm20, an20, cd20, ct20, l20, c20⟩ := c.def_ 20 (d := fd20) rfl
  obtain ⟨oc21, od21, sl21, kV21, dc21, pm21, an21, cd21, ct21, l21, c21⟩ := c.def_ 21 (d := fd21) rfl
  obtain ⟨oc22, od22, sl22, kV22, dc22, pm22, an22, cd22, ct22, l22, c22⟩ := c.def_ 22 (d := fd22) rfl
  obtain ⟨oc23, od23, sl23, kV23, dc23, pm23, an23, cd23, ct23, l23, c23⟩ := c.def_ 23 (d := fd23) rfl
  obtain ⟨oc24, od24, sl24, kV24, dc24, pm24, an24, cd24, ct24, l24, c24⟩ := c.def_ 24 (d := fd24) rfl
  obtain ⟨oc25, od25, sl25, kV25, dc25, pm25, an25, cd25, ct25, l25, c25⟩ := c.def_ 25 (d := fd25) rfl
  obtain ⟨oc26, od26, sl26, kV26, dc26, pm26, an26, cd26, ct26, l26, c26⟩ := c.def_ 26 (d := fd26) rfl
  obtain ⟨oc27, od27, sl27, kV27, dc27, pm27, an27, cd27, ct27, l27, c27⟩ := c.def_ 27 (d := fd27) rfl
  obtain ⟨oc28, od28, sl28, kV28, dc28, pm28, an28, cd28, ct28, l28, c28⟩ := c.def_ 28 (d := fd28) rfl
  obtain ⟨oc29, od29, sl29, kV29, dc29, pm29, an29, cd29, ct29, l29, c29⟩ := c.def_ 29 (d := fd29) rfl
  obtain ⟨oc30, od30, sl30, kV30, dc30, pm30, an30, cd30, ct30, l30, c30⟩ := c.def_ 30 (d := fd30) rfl
  obtain ⟨oc31, od31, sl31, kV31, dc31, pm31, an31, cd31, ct31, l31, c31⟩ := c.def_ 31 (d := fd31) rfl
  obtain ⟨oc32, od32, sl32, kV32, dc32, pm32, an32, cd32, ct32, l32, c32⟩ := c.def_ 32 (d := fd32) rfl
  obtain ⟨oc33, od33, sl33, kV33, dc33, pm33, an33, cd33, ct33, l33, c33⟩ := c.def_ 33 (d := fd33) rfl
  obtain ⟨oc34, od34, sl34, kV34, dc34, pm34, an34, cd34, ct34, l34, c34⟩ := c.def_ 34 (d := fd34) rfl
  obtain ⟨oc35, od35, sl35, kV35, dc35, pm35, an35, cd35, ct35, l35, c35⟩ := c.def_ 35 (d := fd35) rfl
  obtain ⟨oc36, od36, sl36, kV36, dc36, pm36, an36, cd36, ct36, l36, c36⟩ := c.def_ 36 (d := fd36) rfl
  obtain ⟨oc37, od37, sl37, kV37, dc37, pm37, an37, cd37, ct37, l37, c37⟩ := c.def_ 37 (d := fd37) rfl
  obtain ⟨oc38, od38, sl38, kV38, dc38, pm38, an38, cd38, ct38, l38, c38⟩ := c.def_ 38 (d := fd38) rfl
  obtain ⟨Qnm, Qq, QN, Qbs, Qbm, Qsn, Qsub, Qab, Qcol, Qdd, Qk0, Qk1, Qk2, Qk3, Qk5, Qlk, Qrf⟩ := HM.excB_ok (rw_x_Q c)
  exact all_mk X G hfa (rw_a_C3 c) (rw_pg_C3 c) (rw_hd_C3 c) (rw_po_C3 c) (rw_sa_C3 c) (rw_mk_C3 c) (rw_kc_C3 c) (rw_nC3name c) (rw_nC3fields c) (rw_a_CPl c) (rw_pg_CPl c) (rw_hd_CPl c) (rw_po_CPl c) (rw_sa_CPl c) (rw_mk_CPl c) (rw_kc_CPl c) (rw_nCPlcards c) (rw_nCPlconditions c) (rw_a_CRd c) (rw_pg_CRd c) (rw_hd_CRd c) (rw_po_CRd c) (rw_sa_CRd c) (rw_mk_CRd c) (rw_kc_CRd c) (rw_nCRdwords c) (rw_nCRdat c) (rw_hn1 c) (rw_ht1 c) (rw_gA c) (rw_gB c) (rw_gC c) (rw_gD c) (rw_gE c) (rw_gF c) (rw_a_gKW c) (rw_a_gCW c) (rw_h_gKW c) (rw_h_gCW c) (rw_a_CT c) (rw_a_CV c) (rw_a_CG c) (rw_a_CO c) (rw_a_CQ c) (rw_a_CR c) (rw_a_CU c) Qlk Qrf (rw_Qsa c) (rw_Qty c) (rw_Qkc c) (rw_Qwh c) (rw_Qbe c) (rw_Qga c) (rw_Qgg c) (rw_Qhd c) (rw_Qha c) (rw_Qhm c) (rw_bV c) (rw_iV c) (rw_yV c) (rw_zV c) (rw_zQ c) (rw_iG c) (rw_yG c) (rw_zG c) (rw_iO c) (rw_yO c) (rw_zO c) (rw_iS c) (rw_yS c) (rw_zS c) (rw_iR c) (rw_yR c) (rw_zR c) (rw_iU c) (rw_yU c) (rw_zU c) (rw_a0 c) (rw_i0 c) l0 c0 (rw_k0 c) (rw_a1 c) l1 c1 (rw_k1 c) (rw_a2 c) (rw_i2 c) l2 c2 (rw_k2 c) (rw_a3 c) l3 c3 (rw_k3 c) (rw_a4 c) (rw_i4 c) l4 c4 (rw_k4 c) (rw_a5 c) (rw_i5 c) l5 c5 (rw_k5 c) (rw_a6 c) (rw_i6 c) l6 c6 (rw_k6 c) (rw_a7 c) (rw_i7 c) l7 c7 (rw_k7 c) (rw_a8 c) l8 c8 (rw_k8 c) (rw_a9 c) l9 c9 (rw_k9 c) (rw_a10 c) l10 c10 (rw_k10 c) (rw_a11 c) l11 c11 (rw_k11 c) (rw_a12 c) l12 c12 (rw_k12 c) (rw_a13 c) l13 c13 (rw_k13 c) (rw_a14 c) l14 c14 (rw_k14 c) (rw_a15 c) l15 c15 (rw_k15 c) (rw_a16 c) l16 c16 (rw_k16 c) (rw_a17 c) l17 c17 (rw_k17 c) (rw_a18 c) (rw_i18 c) l18 c18 (rw_k18 c) (rw_a19 c) l19 c19 (rw_k19 c) (rw_a20 c) l20 c20 (rw_k20 c) (rw_a21 c) l21 c21 (rw_k21 c) (rw_a22 c) l22 c22 (rw_k22 c) (rw_a23 c) l23 c23 (rw_k23 c) (rw_a24 c) l24 c24 (rw_k24 c) (rw_a25 c) l25 c25 (rw_k25 c) (rw_a26 c) l26 c26 (rw_k26 c) (rw_a27 c) l27 c27 (rw_k27 c) (rw_a28 c) l28 c28 (rw_k28 c) (rw_a29 c) l29 c29 (rw_k29 c) (rw_a30 c) l30 c30 (rw_k30 c) (rw_a31 c) l31 c31 (rw_k31 c) (rw_a32 c) l32 c32 (rw_k32 c) (rw_a33 c) l33 c33 (rw_k33 c) (rw_a34 c) l34 c34 (rw_k34 c) (rw_a35 c) l35 c35 (rw_k35 c) (rw_a36 c) l36 c36 (rw_k36 c) (rw_a37 c) l37 c37 (rw_k37 c) (rw_a38 c) l38 c38 (rw_k38 c) (rw_z_isinstance c) (rw_z_len c) (rw_z_sum c) (rw_z_max c) (rw_z_min c) (rw_z_abs c) (rw_z_any c) (rw_z_all c) (rw_z_sorted c) (rw_z_int c) (rw_z_bool c) (rw_z_str c) (rw_z_list c) (rw_z_tuple c) (rw_z_dict c) (rw_z_range c) (rw_z_enumerate c) (rw_z_zip c)
def loose0 : List PySem.Str := [("VouchError" : PySem.Str), ("BadGroup" : PySem.Str), ("BadRequest" : PySem.Str), ("BadQuestion" : PySem.Str), ("BadTurn" : PySem.Str), ("BadText" : PySem.Str), ("BadOpening" : PySem.Str), ("KEY_WORDS" : PySem.Str), ("CONDITION_WORDS" : PySem.Str), ("LETTERS" : PySem.Str), ("LONGEST_NAME" : PySem.Str), ("MOST_CARDS" : PySem.Str), ("MOST_ISSUERS" : PySem.Str), ("MOST_CONDITIONS" : PySem.Str), ("FIRST_TOO_LONG" : PySem.Str), ("Policy" : PySem.Str), ("_kept" : PySem.Str), ("Reader" : PySem.Str), ("_is_name" : PySem.Str), ("read_policy" : PySem.Str)]
def loose1 : List PySem.Str := [("_read_card" : PySem.Str), ("_values_of" : PySem.Str), ("_read_condition" : PySem.Str), ("_sayable" : PySem.Str), ("_read_value" : PySem.Str), ("_read_number" : PySem.Str), ("_read_numbers" : PySem.Str), ("_written" : PySem.Str), ("policy_text" : PySem.Str), ("Kind" : PySem.Str), ("_law_pool" : PySem.Str), ("_law_draw" : PySem.Str), ("_law_same" : PySem.Str), ("_law_name" : PySem.Str), ("_law_unlike" : PySem.Str), ("_law_all_kinds" : PySem.Str), ("_law_pairs" : PySem.Str), ("_law_policy" : PySem.Str), ("_law_words" : PySem.Str), ("_law_is_name" : PySem.Str)]
def loose2 : List PySem.Str := [("_law_is_number" : PySem.Str), ("_law_start" : PySem.Str), ("_law_picks" : PySem.Str), ("_law_cards" : PySem.Str), ("_law_next" : PySem.Str), ("_law_wrong" : PySem.Str), ("_law_menu" : PySem.Str), ("_law_changed" : PySem.Str), ("_law_walked" : PySem.Str)]
def loose : List PySem.Str := loose0 ++ loose1 ++ loose2
abbrev rowR : PySem.W.OpenRow := PySem.W.OpenLaw.row PySem.Challenge.rw_vouchdoor_k31_whole_policies_are_read_ex
abbrev hkM : PySem.W.Hook := HM.hook exs fds
def obM (s : PySem.W.SharedT) : He.Al := HM.obsM exs fds (HandSHeadRun.getT s)
theorem ob_eqM (s : PySem.W.SharedT) : obM s = hkM.obs s.abs := HM.obs_eq (HandSHeadRun.getT_eq s)
set_option maxHeartbeats 0 in
theorem runM (w : World) : HandSHeadRun.RunEq rowR (PySem.W.view rowR.prog [53]) hkM obM 20000 loose w := by
  intro os
  kernel_rfl
end My
open PySem PySem.W PySem.Calls PyProof.Rows
set_option maxRecDepth 100000 in
set_option maxHeartbeats 0 in
theorem PySem.Challenge.cw_vouchdoor_k31_whole_policies_are_read_ex_holds : PySem.Challenge.rw_vouchdoor_k31_whole_policies_are_read_ex.Holds := by
  w_on; o_law
  refine HandSHeadRun.head_any (r := OpenLaw.row PySem.Challenge.rw_vouchdoor_k31_whole_policies_are_read_ex) (q := view (OpenLaw.row PySem.Challenge.rw_vouchdoor_k31_whole_policies_are_read_ex).prog [53]) (H := My.hkM) (ob := My.obM) (M := 20000) (loose := My.loose) (d := HandSHeadRun.topDef (OpenLaw.row PySem.Challenge.rw_vouchdoor_k31_whole_policies_are_read_ex).prog 53) (kwd := []) My.ob_eqM
    (by kernel_rfl) (fun s => by kernel_rfl) My.runM (by kernel_rfl) (by kernel_rfl) (by kernel_rfl) (by rfl) (by first | assumption | decide +kernel) (by decide +kernel) ⟨rfl, rfl, rfl, rfl, rfl, by decide +kernel⟩ ?hw ?hc
  case hw => w_witness2
  case hc =>
    refine L2.walk_ofE (l := PySem.Challenge.rw_vouchdoor_k31_whole_policies_are_read_ex) (n := 63) (k := 24) (x := "script") (CX := L2.CX0) rfl (by decide) (by kernel_rfl) ⟨rfl, by decide, by decide⟩ ?F (fun _ _ _ _ z => z)
    intro w mg fa h Y G hmg0
    obtain ⟨K, KX, c⟩ := Y
    have hmg : mg ("law" : PySem.Str) = some (.ref fa) := by
      have e : (HandSHeadRun.topDef (OpenLaw.row PySem.Challenge.rw_vouchdoor_k31_whole_policies_are_read_ex).prog 53).name = ("law" : PySem.Str) := by kernel_rfl
      rw [← e]
      exact hmg0
    obtain ⟨fd, hb, hF⟩ := My.fin (l := PySem.Challenge.rw_vouchdoor_k31_whole_policies_are_read_ex) (w := w) KX G hmg c
    exact ⟨K, fd, My.spLaw K, KX, hb, fun H a ns hl _ hS => ⟨a, ns, rfl, hS, fun _ => rfl⟩, hF⟩
