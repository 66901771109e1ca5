import PyProof.Rows.All
import Wide.All
import OpenK.AllK
import Wide.FinOn
import HandS.ForMost
import HandS.IsInst
import HandS.Codes
import HandS.Zip
import KE.GoesEnum
import KE.KDictZip
import KE.KItemsList
import HandS.OwnEq
import HandS.Style
import HandS.TupAny
import HandS.Strs
import HandS.Conv
import HandS.Star
import PyProof.SumWalkG
import HandS.Exc
import HandS.ExcOwn
import HandS.TryOnly
import HandS.WordsExc
import HandS.ExcField
import HandS.ExcIs
import HandS.ExcInit
import KE.KExcIs
import PySem.Challenge.RW_vouchdoor_k01_groups
set_option Elab.async false
set_option linter.all false
set_option maxRecDepth 100000




namespace My
open PySem PySem.Spec PyProof.Rows L2
/-! ### zip over lists and tuples in any mix; list(zip(..)) -/
section
variable {prog : Program} {w : World} {A : Around} {E : Value → Shared → Prop} {s : Shared}
/-- an iterator over a list (false) or a tuple (true) -/
def ItK (k : Bool) (h : Heap) (it l : Addr) (i : Nat) : Prop := match k with
  | true => h.IsTupleIter it l i
  | false => h.IsListIter it l i
def SeK (k : Bool) (h : Heap) (l : Addr) (its : Array Value) : Prop := match k with
  | true => h.IsTuple l its
  | false => h.IsList l its
abbrev StK (k : Bool) (it l : Addr) (its : Array Value) : Nat → Heap → Prop := fun i h => ItK k h it l i ∧ SeK k h l its
theorem drK (k : Bool) (hh : A.handled = none) {it l : Addr} (ne : l ≠ it) (its : Array Value) : Draws prog w A it [it, l] its.size (fun i v => its[i]? = some v) (StK k it l its) := by
  cases k with
  | true => exact Draws.tuple hh it l ne its
  | false => exact Draws.list hh it l ne its
def itO (k : Bool) (l : Addr) : Obj := match k with
  | true => { cls := .type "tuple_iterator", data := .fields #[.ref l, .int 0 0] }
  | false => { cls := .type "list_iterator", data := .fields #[.ref l, .int 0 0] }
theorem bgK (k : Bool) (l : Addr) (its : Array Value) : Begins (.ref l) (itO k l) fun h => SeK k h l its := by
  cases k with
  | true => exact begins_tuple l its
  | false => exact begins_list l its
theorem itK0 {k : Bool} {h : Heap} {it l : Addr} (e : h.get? it = some (itO k l)) : ItK k h it l 0 := by
  cases k with
  | true => exact ⟨_, e, rfl, rfl⟩
  | false => exact ⟨_, e, rfl, rfl⟩
theorem SeK.at {k : Bool} {h h' : Heap} {l : Addr} {its : Array Value} (x : SeK k h l its) (q : ∀ o, h.get? l = some o → h'.get? l = some o) : SeK k h' l its := by
  cases k with
  | true => exact Heap.IsTuple.at (show h.IsTuple l its from x) q
  | false => exact Heap.IsList.at (show h.IsList l its from x) q
theorem ItK.at {k : Bool} {h h' : Heap} {it l : Addr} {i : Nat} (x : ItK k h it l i) (q : ∀ o, h.get? it = some o → h'.get? it = some o) : ItK k h' it l i := by
  cases k with
  | true => exact Heap.IsTupleIter.at (show h.IsTupleIter it l i from x) q
  | false => exact Heap.IsListIter.at (show h.IsListIter it l i from x) q
theorem ItK.obj {k : Bool} {h : Heap} {it l : Addr} {i : Nat} (x : ItK k h it l i) : ∃ o, h.get? it = some o ∧ ∀ v, o.data ≠ .cell v := by
  cases k with
  | true =>
    obtain ⟨o, e, _, d⟩ := x
    exact ⟨o, e, fun v q => by rw [d] at q; cases q⟩
  | false =>
    obtain ⟨o, e, _, d⟩ := x
    exact ⟨o, e, fun v q => by rw [d] at q; cases q⟩
theorem SeK.lt {k : Bool} {h : Heap} {l : Addr} {its : Array Value} (x : SeK k h l its) : l < h.objs.size := by
  cases k with
  | true =>
    obtain ⟨o, e, _⟩ := x
    exact Heap.lt_size e
  | false =>
    obtain ⟨o, e, _⟩ := x
    exact Heap.lt_size e
theorem sepK {z TI TO i1 i2 a b : Addr} (D : ZipApart z TI TO i1 i2 a b) : ZipSep2 z TI TO i1 i2 [i1, a] [i2, b] where
  TIz := D.TIz
  TOz := D.TOz
  TITO := D.TITO
  TIi1 := D.TIi1
  mem1 := by simp
  zf1 := by simp [D.i1z.symm, D.l1z.symm]
  Tf1 := by simp [D.TOi1, D.l1TO.symm]
  TIi2 := D.TIi2
  mem2 := by simp
  zf2 := by simp [D.i2z.symm, D.l2z.symm]
  Tf2 := by simp [D.TOi2, D.l2TO.symm]
  sep1_2 := by simp [D.i12, D.l2i1.symm]
  sep2_1 := by simp [D.i12.symm, D.l1i2.symm]
end
def SqK (k : Bool) (K : PySem.W.Frag) (H : Hp) (a : Addr) (xs : List V) : Prop := match k with
  | true => SqT K H a xs
  | false => SqL K H a xs
section
variable {X : Cx} {pins : List (Addr × Obj)} {σ : L2.St} {H : Hp} {s : Shared}
theorem seqK {k : Bool} {a : Addr} {xs : List V} (I : Inv X pins σ H s) (h : SqK k X.K H a xs) : ∃ its : List Value, Vals xs its ∧ SeK k s.heap a its.toArray ∧ xs.length ≤ sizeLine := by
  cases k with
  | true =>
    obtain ⟨its, r, p, z⟩ := I.tuple h
    exact ⟨its, r, p, z⟩
  | false =>
    obtain ⟨its, r, p, z⟩ := I.list h
    exact ⟨its, r, p.isList, z⟩
theorem seqK_inj {k : Bool} {a : Addr} {xs ys : List V} (I : Inv X pins σ H s) (h : SqK k X.K H a xs) (h' : SqK k X.K H a ys) : xs = ys := by
  cases k with
  | true => exact I.tuple_inj h h'
  | false => exact I.list_inj h h'
end
/-- the turns of a zip of a and b -/
def ItzK (k1 k2 : Bool) (K : PySem.W.Frag) (a b : Addr) : It where
  go := fun i H => ∃ (xs ys : List V) (x y : V), SqK k1 K H a xs ∧ SqK k2 K H b ys ∧ xs[i]? = some x ∧ ys[i]? = some y
  yld := fun i H v H' => ∃ T x y, v = .ref T ∧ H T = none ∧ H' = upd H T (.tup [x, y]) ∧ (∀ xs, SqK k1 K H a xs → xs[i]? = some x) ∧ ∀ ys, SqK k2 K H b ys → ys[i]? = some y
  stop := fun i H => ∃ xs ys : List V, SqK k1 K H a xs ∧ SqK k2 K H b ys ∧ i ≤ xs.length ∧ i ≤ ys.length ∧ (i = xs.length ∨ i = ys.length)
theorem turnK {P : Program} {w : World} {K : PySem.W.Frag} {elts : List Expr} {kk : Nat} {tpos : Pos} {k1 k2 : Bool} {a b z TI TO i1 i2 : Addr} (D : ZipApart z TI TO i1 i2 a b) :
    Turn P w K (.Tuple elts kk tpos) (ItzK k1 k2 K a b) [z, TI, TO, i1, i2] z
      (fun i h => IsZip h z TI TO .none ∧ IsPair h TI (.ref i1) (.ref i2) ∧ (∃ x y, IsPair h TO x y) ∧ ItK k1 h i1 a i ∧ ItK k2 h i2 b i) where
  mem := by simp
  obj := fun i h st c hc => by
    obtain ⟨hz, hTI, ⟨x, y, hTO⟩, g1, g2⟩ := st
    simp only [List.mem_cons, List.not_mem_nil, or_false] at hc
    rcases hc with rfl | rfl | rfl | rfl | rfl
    · exact ⟨_, hz, fun v q => nomatch q⟩
    · exact ⟨_, hTI, fun v q => nomatch q⟩
    · exact ⟨_, hTO, fun v q => nomatch q⟩
    · exact g1.obj
    · exact g2.obj
  keep := fun i h h' st q => by
    obtain ⟨hz, hTI, ⟨x, y, hTO⟩, g1, g2⟩ := st
    exact ⟨q z (by simp) _ hz, q TI (by simp) _ hTI, ⟨x, y, q TO (by simp) _ hTO⟩, g1.at fun o => q i1 (by simp) o, g2.at fun o => q i2 (by simp) o⟩
  item := by
    intro X hP hw hK hc i pins s σ H E I hf st hg
    subst hP hw hK
    obtain ⟨hz, hTI, ⟨x0, y0, hTO⟩, g1, g2⟩ := st
    obtain ⟨xs, ys, x, y, qx, qy, hx, hy⟩ := hg
    obtain ⟨us, ru, pu, _⟩ := seqK I qx
    obtain ⟨vs, rv, pv, _⟩ := seqK I qy
    obtain ⟨u, hu, ru1⟩ := ru.get hx
    obtain ⟨v, hv, rv1⟩ := rv.get hy
    have zl : z < s.heap.objs.size := Heap.lt_size hz
    have lu : i < us.toArray.size := by simpa using (List.getElem?_eq_some_iff.mp hu).1
    have lv : i < vs.toArray.size := by simpa using (List.getElem?_eq_some_iff.mp hv).1
    have hh : X.A.in1.handled = none := I.ok.hd hc
    have d1 := drK (prog := X.prog) (w := X.w) (A := X.A.in1) k1 hh D.l1i1 us.toArray
    have d2 := drK (prog := X.prog) (w := X.w) (A := X.A.in1) k2 hh D.l2i2 vs.toArray
    refine wpAny_pyNext_zipD2_item (sepK D) d1 d2 hz hTI hTO ⟨g1, pu⟩ ⟨g2, pv⟩ lu lv fun u' v' h' tk eu ev z1 t1 s1 s2 hT hsz hk => ?_
    have eu' : u' = u := by
      have : us.toArray[i]? = some u := by simpa using hu
      rw [this] at eu
      exact (Option.some.inj eu).symm
    have ev' : v' = v := by
      have : vs.toArray[i]? = some v := by simpa using hv
      rw [this] at ev
      exact (Option.some.inj ev).symm
    subst eu' ev'
    refine ⟨_, rfl, wpAny_letOwnedTupleGo_zip (s := { s with heap := h', toks := tk }) z1 fun h2 z2 sb => ?_⟩
    have hT2 : IsPair h2 s.heap.objs.size u' v' := (sb.2 _ (Nat.ne_of_gt zl)).trans hT
    have new : ObjOk X.prog X.w (upd H s.heap.objs.size (.tup [x, y])) h2 s.heap.objs.size (.tup [x, y]) := ⟨Nat.le_of_ble_eq_true rfl, [u', v'], .cons ru1 (.cons rv1 .nil), ⟨_, hT2, rfl, _, rfl⟩⟩
    have ks : ∀ c o, c ∉ [z, TI, TO, i1, i2] → s.heap.get? c = some o → h2.get? c = some o := fun c o hb q => by
      simp only [List.mem_cons, List.not_mem_nil, or_false, not_or] at hb
      exact (sb.2 c hb.1).trans (hk c o hb.1 hb.2.2.1 hb.2.2.2.1 hb.2.2.2.2 q)
    have J := I.turnedNew (t' := tk) (ch := [z, TI, TO, i1, i2]) ks hf (Nat.le_refl _) new
    refine ⟨V.ref s.heap.objs.size, _, J, rfl, ⟨_, x, y, rfl, I.hok.fresh (Nat.le_refl _), rfl, fun l hl => by rw [seqK_inj I hl qx]; exact hx, fun l hl => by rw [seqK_inj I hl qy]; exact hy⟩, ⟨z2, ?_, ⟨u', v', (sb.2 _ D.TOz).trans t1⟩, s1.1.at fun o q => (sb.2 _ D.i1z).trans q, s2.1.at fun o q => (sb.2 _ D.i2z).trans q⟩, fun c hcm => ?_⟩
    · exact (sb.2 _ D.TIz).trans (hk _ _ D.TIz D.TITO D.TIi1 D.TIi2 hTI)
    · have hlt : c < s.heap.objs.size := by
        simp only [List.mem_cons, List.not_mem_nil, or_false] at hcm
        rcases hcm with rfl | rfl | rfl | rfl | rfl
        · exact zl
        · exact Heap.lt_size hTI
        · exact Heap.lt_size hTO
        · obtain ⟨_, e, _⟩ := g1.obj
          exact Heap.lt_size e
        · obtain ⟨_, e, _⟩ := g2.obj
          exact Heap.lt_size e
      rw [upd_ne (Nat.ne_of_lt hlt)]
      exact (hf c hcm).1
  done := by
    intro X hP hw hK hc i pins s σ H E I hf st hg
    subst hP hw hK
    obtain ⟨hz, hTI, ⟨x0, y0, hTO⟩, g1, g2⟩ := st
    obtain ⟨xs, ys, qx, qy, lx, ly, hend⟩ := hg
    obtain ⟨us, ru, pu, _⟩ := seqK I qx
    obtain ⟨vs, rv, pv, _⟩ := seqK I qy
    have e1 := ru.length
    have e2 := rv.length
    have hh : X.A.in1.handled = none := I.ok.hd hc
    have d1 := drK (prog := X.prog) (w := X.w) (A := X.A.in1) k1 hh D.l1i1 us.toArray
    have d2 := drK (prog := X.prog) (w := X.w) (A := X.A.in1) k2 hh D.l2i2 vs.toArray
    refine wpAny_pyNext_zipD2_end (sepK D) d1 d2 hz hTI hTO ⟨g1, pu⟩ ⟨g2, pv⟩ (by simp; omega) (by simp; omega) (by simp; omega) fun h' tk hk => ⟨rfl, I.turnedL (t' := tk) (ch := [z, TI, TO, i1, i2]) (fun c o hb q => ?_) hf⟩
    simp only [List.mem_cons, List.not_mem_nil, or_false, not_or] at hb
    exact hk c o hb.1 hb.2.2.1 hb.2.2.2.1 hb.2.2.2.2 q
  self := fun A i s Q E st h => wpAny_pyIter_zip st.1 h
/-- zip(e, e2): the kinds told -/
def iZipK (k1 k2 : Bool) (K : PySem.W.Frag) (ta : TA) : TI := fun σ H R => ta σ H fun vs H1 => ∃ a b xs ys, vs = [.ref a, .ref b] ∧ SqK k1 K H1 a xs ∧ SqK k2 K H1 b ys ∧ R (ItzK k1 k2 K a b) H1
theorem fresh5 {X : Cx} {pins : List (Addr × Obj)} {σ : L2.St} {H : Hp} {s : Shared} (I : Inv X pins σ H s) (c : Addr) (hc : c ∈ [s.heap.objs.size + 4, s.heap.objs.size + 2, s.heap.objs.size + 3, s.heap.objs.size, s.heap.objs.size + 1]) : FpOk X pins H c := by
  have le : s.heap.objs.size ≤ c := by
    simp only [List.mem_cons, List.not_mem_nil, or_false] at hc
    rcases hc with rfl | rfl | rfl | rfl | rfl
    · exact Nat.le_add_right _ _
    · exact Nat.le_add_right _ _
    · exact Nat.le_add_right _ _
    · exact Nat.le_refl _
    · exact Nat.le_add_right _ _
  exact I.fpOk le (I.hok.fresh le)
theorem pi_zipK (k1 k2 : Bool) {X : Cx} {K : PySem.W.Frag} (hK : X.K = K) {e e2 : Expr} {ta : TA} {p pos tpos : Pos} {elts : List Expr} {kk : Nat} (hg : Gl X "zip") (hm : X.mg "zip" = none) (ha : PA X [e, e2] ta)
    (hs : starEach [e, e2] X.env = (false, eval e X.env) :: starEach [e2] X.env := by rfl) (hpl : (backTo pos (starEach [e2] X.env)).any (·.1) = false := by rfl) :
    PI X (.Tuple elts kk tpos) (.Call (.Name "zip" p) [e, e2] [] pos) (iZipK k1 k2 K ta) := by
  subst hK
  refine ⟨fun pins s σ H R I h => Call_ (ld_blt I hg hm PyProof.Rows.boot_zip (PyProof.Rows.callWith_type1 (thn (ha.run pos pins s σ H _ I h) fun us s1 hh => ?_) hs hpl))⟩
  obtain ⟨vs, H1, I1, r1, a, b, xs, ys, rfl, qx, qy, q⟩ := hh
  obtain ⟨u1, u2, rfl, ru, rv⟩ := vals2 r1
  cases (show u1 = Value.ref a from ru)
  cases (show u2 = Value.ref b from rv)
  obtain ⟨us, _, pu, _⟩ := seqK I1 qx
  obtain ⟨ws, _, pw, _⟩ := seqK I1 qy
  refine zip_begins2 (bgK k1 a us.toArray) (bgK k2 b ws.toArray) pu pw fun h' hz hTI hTO o1 o2 hsz hk => wpAny_pyIter_zip hz ?_
  have J : Inv X pins σ H1 { s1 with heap := h' } := I1.kept (t' := s1.toks) hk
  exact ⟨_, [s1.heap.objs.size + 4, s1.heap.objs.size + 2, s1.heap.objs.size + 3, s1.heap.objs.size, s1.heap.objs.size + 1], _, _, H1, rfl, J, turnK (PySem.W.ktu_apart s1.heap.objs.size a b pu.lt pw.lt), ⟨hz, hTI, ⟨_, _, hTO⟩, itK0 o1, itK0 o2⟩, fresh5 I1, q⟩
/-- what a loop over it asks -/
theorem for_zipK {k1 k2 : Bool} {K : PySem.W.Frag} {a b : Addr} {xs ys : List V} {g : TG} {tb : TS} {D : Ends} {σ : L2.St} {H : Hp} (hl : xs.length = ys.length) (Pv : Nat → L2.St → Hp → Prop) (h0 : Pv 0 σ H) (hq : ∀ i σ H, Pv i σ H → SqK k1 K H a xs ∧ SqK k2 K H b ys)
    (hs : ∀ (i : Nat) (x y : V) (T : Addr) (σ : L2.St) (H : Hp), xs[i]? = some x → ys[i]? = some y → Pv i σ H → H T = none → g (.ref T) σ (upd H T (.tup [x, y])) fun σ2 H2 => tb { D with nx := Pv (i + 1), ct := Pv (i + 1), bk := D.nx } σ2 H2) (hd : ∀ σ H, Pv xs.length σ H → D.nx σ H) :
    ∃ W : Nat → Nat → L2.St → Hp → Prop, (∃ m, W 0 m σ H) ∧ ∀ i m σ H, W i m σ H →
      ((ItzK k1 k2 K a b).stop i H ∧ D.nx σ H) ∨ ((ItzK k1 k2 K a b).go i H ∧ ∃ N : L2.St → Hp → Prop, (∀ σ' H', N σ' H' → ∃ m', m' < m ∧ W (i + 1) m' σ' H') ∧ ∀ v H', (ItzK k1 k2 K a b).yld i H v H' → g v σ H' fun σ2 H2 => tb { D with nx := N, ct := N, bk := D.nx } σ2 H2) := by
  refine ⟨fun i m σ H => m + i = xs.length ∧ Pv i σ H, ⟨xs.length, rfl, h0⟩, ?_⟩
  rintro i m σ H ⟨hm, p⟩
  obtain ⟨qx, qy⟩ := hq i σ H p
  by_cases hlt : i < xs.length
  · have hx : xs[i]? = some xs[i] := List.getElem?_eq_getElem hlt
    have hy : ys[i]? = some (ys[i]'(by omega)) := List.getElem?_eq_getElem (by omega)
    refine .inr ⟨⟨xs, ys, _, _, qx, qy, hx, hy⟩, Pv (i + 1), fun σ' H' p' => ⟨m - 1, by omega, by omega, p'⟩, fun v H' yl => ?_⟩
    obtain ⟨T, x', y', rfl, hT, rfl, f1, f2⟩ := yl
    exact hs i x' y' T σ H (f1 xs qx) (f2 ys qy) p hT
  · have e : i = xs.length := by omega
    subst e
    exact .inl ⟨⟨xs, ys, qx, qy, Nat.le_refl _, by omega, .inl rfl⟩, hd σ H p⟩

/-! ### list(zip(..)) -/
section
variable {prog : Program} {w : World} {A : Around} {E : Value → Shared → Prop} {s : Shared} {z TI TO T i1 i2 : Addr} {fp1 fp2 : List Addr} {n1 n2 i : Nat} {P1 P2 : Nat → Value → Prop} {St1 St2 : Nat → Heap → Prop} {f : Bool} {oT : Obj}
theorem zh_item {Q : Value → Shared → Prop} (S : ZipSep2 z TI TO i1 i2 fp1 fp2) (D1 : Draws prog w A i1 fp1 n1 P1 St1) (D2 : Draws prog w A i2 fp2 n2 P2 St2)
    (hz : IsZipHeld s.heap z TI TO T f) (hT : s.heap.get? T = some oT) (hTI : IsPair s.heap TI (.ref i1) (.ref i2)) (st1 : St1 i s.heap) (st2 : St2 i s.heap) (lt1 : i < n1) (lt2 : i < n2)
    (hQ : ∀ x y h' tk, P1 i x → P2 i y → IsZipHeld h' z TI TO T true → St1 (i + 1) h' → St2 (i + 1) h' → IsPair h' s.heap.objs.size x y → h'.objs.size = s.heap.objs.size + 1 →
      (∀ c o, c ≠ z → c ≠ i1 → c ≠ i2 → s.heap.get? c = some o → h'.get? c = some o) → Q (.ref s.heap.objs.size) { s with heap := h', toks := tk }) :
    wpAny (model prog w) A (Builtin.«zip.__next__» ⟨[.ref z], []⟩) (fun fin s' => ∃ v, fin = .done (.ret v) ∧ Q v s') E s := by
  obtain ⟨h0, g, d, tk0, os⟩ := s
  show wpAny _ _ (field (.ref z) 2 >>= fun _ => _) _ _ _; refine wpAny_bind (wpAny_field (x := .bool false) hz rfl rfl ?_)
  show wpAny _ _ (field (.ref z) 3 >>= fun _ => _) _ _ _; refine wpAny_bind (wpAny_field (x := .ref TI) hz rfl rfl ?_)
  refine wpAny_bind (wpAny_seqItems hTI rfl ?_); show wpAny _ _ (Builtin.SmallTypes.ownedTupleIsFree (.ref z) >>= fun _ => _) _ _ _
  refine wpAny_bind (wpAny_tupleHeld_zip hz hT fun ha za sa => ?_)
  simp only [Bool.false_eq_true, if_false]; refine wpAny_bind ?_
  rw [← Array.forIn_toList]; simp only [List.forIn_cons, List.forIn_nil]
  refine wpAny_bind (wpAny_bind (wpAny_holding ?_)); show wpAny _ _ (Builtin.SmallTypes.nextOf (.ref i1) >>= fun _ => _) _ _ _
  refine wpAny_bind (D1.item i ⟨ha, g, d, tk0, os⟩ _ _ lt1 (D1.over st1 sa S.zf1) fun x hb tkb px st1b sb => wpAny_pure ?_); refine wpAny_pure ?_
  refine wpAny_bind (wpAny_bind (wpAny_holding ?_)); show wpAny _ _ (Builtin.SmallTypes.nextOf (.ref i2) >>= fun _ => _) _ _ _
  refine wpAny_bind (D2.item i ⟨hb, g, d, tkb, os⟩ _ _ lt2 (D2.over (D2.over st2 sa S.zf2) sb S.sep1_2) fun y hc tkc py st2c sc => wpAny_pure ?_); refine wpAny_pure (wpAny_pure ?_)
  show wpAny _ _ (newTuple [x, y] >>= fun _ => _) _ _ _; refine wpAny_bind (wpAny_newTuple ?_)
  have hsz : hc.objs.size = h0.objs.size := by rw [sc.1, sb.1, sa.1]
  have zc : IsZipHeld hc z TI TO T true := sc.extBut _ _ S.zi2 (sb.extBut _ _ S.zi1 za)
  have up : ∀ c o, hc.get? c = some o → (hc.push { cls := .type "tuple", data := .seq #[x, y] }).get? c = some o := fun c o e => Heap.get?_push_of_some _ e
  refine wpAny_pure ⟨_, rfl, ?_⟩
  show Q (.ref hc.objs.size) _
  have hp : IsPair (hc.push { cls := .type "tuple", data := .seq #[x, y] }) hc.objs.size x y := Heap.get?_push_size _ rfl
  have h4 : (hc.push { cls := .type "tuple", data := .seq #[x, y] }).objs.size = hc.objs.size + 1 := Heap.size_push ..
  rw [hsz] at hp h4 ⊢
  exact hQ x y _ tkc px py (up _ _ zc) (D1.frame _ _ _ (D1.over st1b sc S.sep2_1) fun c _ o e => up c o e) (D2.frame _ _ _ st2c fun c _ o e => up c o e) hp h4 fun c o c1 c2 c3 e => up c o (sc.extBut _ _ c3 (sb.extBut _ _ c2 (sa.extBut _ _ c1 e)))
theorem zh_end {Q : Fin → Shared → Prop} (S : ZipSep2 z TI TO i1 i2 fp1 fp2) (D1 : Draws prog w A i1 fp1 n1 P1 St1) (D2 : Draws prog w A i2 fp2 n2 P2 St2)
    (hz : IsZipHeld s.heap z TI TO T f) (hT : s.heap.get? T = some oT) (hTI : IsPair s.heap TI (.ref i1) (.ref i2)) (st1 : St1 i s.heap) (st2 : St2 i s.heap) (le1 : i ≤ n1) (le2 : i ≤ n2) (he : i = n1 ∨ i = n2)
    (hE : ∀ h' tk e, (∀ c o, c ≠ z → c ≠ TO → c ≠ i1 → c ≠ i2 → s.heap.get? c = some o → h'.get? c = some o) → (∃ o, h'.get? e = some o ∧ o.cls = .type "StopIteration") → E (.ref e) { s with heap := h', toks := tk }) :
    wpAny (model prog w) A (Builtin.«zip.__next__» ⟨[.ref z], []⟩) Q E s := by
  obtain ⟨h0, g, d, tk0, os⟩ := s
  show wpAny _ _ (field (.ref z) 2 >>= fun _ => _) _ _ _; refine wpAny_bind (wpAny_field (x := .bool false) hz rfl rfl ?_)
  show wpAny _ _ (field (.ref z) 3 >>= fun _ => _) _ _ _; refine wpAny_bind (wpAny_field (x := .ref TI) hz rfl rfl ?_)
  refine wpAny_bind (wpAny_seqItems hTI rfl ?_); show wpAny _ _ (Builtin.SmallTypes.ownedTupleIsFree (.ref z) >>= fun _ => _) _ _ _
  refine wpAny_bind (wpAny_tupleHeld_zip hz hT fun ha za sa => ?_)
  simp only [Bool.false_eq_true, if_false]; refine wpAny_bind ?_
  rw [← Array.forIn_toList]; simp only [List.forIn_cons, List.forIn_nil]
  refine wpAny_bind (wpAny_bind (wpAny_holding ?_)); show wpAny _ _ (Builtin.SmallTypes.nextOf (.ref i1) >>= fun _ => _) _ _ _
  by_cases e1 : i = n1
  · subst e1
    refine wpAny_bind (D1.done ⟨ha, g, d, tk0, os⟩ _ _ (D1.over st1 sa S.zf1) fun hb e sb ex => ?_)
    exact hE hb tk0 e (fun c o c1 _ c2 _ x => sb _ _ c2 (sa.extBut _ _ c1 x)) ex
  · have e2 : i = n2 := he.resolve_left e1
    subst e2
    refine wpAny_bind (D1.item i ⟨ha, g, d, tk0, os⟩ _ _ (by omega) (D1.over st1 sa S.zf1) fun x hb tkb px st1b sb => wpAny_pure ?_); refine wpAny_pure ?_
    refine wpAny_bind (wpAny_bind (wpAny_holding ?_)); show wpAny _ _ (Builtin.SmallTypes.nextOf (.ref i2) >>= fun _ => _) _ _ _
    refine wpAny_bind (D2.done ⟨hb, g, d, tkb, os⟩ _ _ (D2.over (D2.over st2 sa S.zf2) sb S.sep1_2) fun hc e sc ex => ?_)
    exact hE hc tkb e (fun c o c1 _ c2 c3 x => sc _ _ c3 (sb.extBut _ _ c2 (sa.extBut _ _ c1 x))) ex
/-- a zip between two items, whatever it holds; S: the list that is made -/
def ZSt (z TI TO i1 i2 S : Addr) (St1 St2 : Nat → Heap → Prop) (h : Heap) (i : Nat) : Prop :=
  IsPair h TI (.ref i1) (.ref i2) ∧ St1 i h ∧ St2 i h ∧ ((IsZip h z TI TO .none ∧ ∃ x y, IsPair h TO x y) ∨ ∃ T f oT, IsZipHeld h z TI TO T f ∧ h.get? T = some oT ∧ T ≠ S)
theorem zs_item {S0 : Addr} {Q : Option Value → Shared → Prop} (S : ZipSep2 z TI TO i1 i2 fp1 fp2) (D1 : Draws prog w A.in1 i1 fp1 n1 P1 St1) (D2 : Draws prog w A.in1 i2 fp2 n2 P2 St2) (st : ZSt z TI TO i1 i2 S0 St1 St2 s.heap i) (lt1 : i < n1) (lt2 : i < n2) (hS : S0 < s.heap.objs.size)
    (hQ : ∀ x y h' tk, P1 i x → P2 i y → ZSt z TI TO i1 i2 S0 St1 St2 h' (i + 1) → IsPair h' s.heap.objs.size x y → h'.objs.size = s.heap.objs.size + 1 → (∀ c o, c ≠ z → c ≠ TO → c ≠ i1 → c ≠ i2 → s.heap.get? c = some o → h'.get? c = some o) → Q (some (.ref s.heap.objs.size)) { s with heap := h', toks := tk }) :
    wpAny (model prog w) A (pyNext (.ref z)) Q E s := by
  obtain ⟨hTI, s1, s2, hh⟩ := st
  rcases hh with ⟨hz, x0, y0, hTO⟩ | ⟨T, f, oT, hz, hT, nT⟩
  · refine wpAny_pyNext_zipD2_item S D1 D2 hz hTI hTO s1 s2 lt1 lt2 fun x y h' tk px py z1 t1 s1' s2' hp hsz hk => ?_
    exact hQ x y h' tk px py ⟨hk _ _ S.TIz S.TITO S.TIi1 S.TIi2 hTI, s1', s2', .inr ⟨_, false, _, z1, hp, Nat.ne_of_gt hS⟩⟩ hp hsz hk
  · have ty : s.TypeIs (.ref z) "zip" := ⟨_, hz, rfl⟩
    unfold pyNext
    refine wpAny_bind (wpAny_attempt (wpAny_callSpecial?_slot (name := Str.ofString "__next__") ty F.slot_zip_next (wpAny_call_entry F.slot_zip_next ty F.entry_zip_next (zh_item S D1 D2 hz hT hTI s1 s2 lt1 lt2 fun x y h' tk px py z1 s1' s2' hp hsz hk => wpAny_pure ?_) (F.args_zip_next_1 _))))
    have hk4 : ∀ c o, c ≠ z → c ≠ TO → c ≠ i1 → c ≠ i2 → s.heap.get? c = some o → h'.get? c = some o := fun c o c1 _ c2 c3 e => hk c o c1 c2 c3 e
    have hTI' := hk _ _ S.TIz S.TIi1 S.TIi2 hTI
    have : ∃ o, h'.get? T = some o := by
      by_cases q : T = z ∨ T = i1 ∨ T = i2
      · rcases q with q | q | q
        · rw [q]
          exact ⟨_, z1⟩
        · rw [q]
          exact D1.live _ _ s1'
        · rw [q]
          exact D2.live _ _ s2'
      · simp only [not_or] at q
        exact ⟨oT, hk _ _ q.1 q.2.1 q.2.2 hT⟩
    obtain ⟨o, ho⟩ := this
    exact hQ x y h' tk px py ⟨hTI', s1', s2', .inr ⟨T, true, o, z1, ho, nT⟩⟩ hp hsz hk4
theorem zs_end {S0 : Addr} {Q : Option Value → Shared → Prop} (S : ZipSep2 z TI TO i1 i2 fp1 fp2) (D1 : Draws prog w A.in1 i1 fp1 n1 P1 St1) (D2 : Draws prog w A.in1 i2 fp2 n2 P2 St2) (st : ZSt z TI TO i1 i2 S0 St1 St2 s.heap i) (le1 : i ≤ n1) (le2 : i ≤ n2) (he : i = n1 ∨ i = n2)
    (hQ : ∀ h' tk, (∀ c o, c ≠ z → c ≠ TO → c ≠ i1 → c ≠ i2 → s.heap.get? c = some o → h'.get? c = some o) → Q none { s with heap := h', toks := tk }) : wpAny (model prog w) A (pyNext (.ref z)) Q E s := by
  obtain ⟨hTI, s1, s2, hh⟩ := st
  rcases hh with ⟨hz, x0, y0, hTO⟩ | ⟨T, f, oT, hz, hT, nT⟩
  · exact wpAny_pyNext_zipD2_end S D1 D2 hz hTI hTO s1 s2 le1 le2 he hQ
  · have ty : s.TypeIs (.ref z) "zip" := ⟨_, hz, rfl⟩
    unfold pyNext
    refine wpAny_bind (wpAny_attempt (wpAny_callSpecial?_slot (name := Str.ofString "__next__") ty F.slot_zip_next (wpAny_call_entry F.slot_zip_next ty F.entry_zip_next (zh_end S D1 D2 hz hT hTI s1 s2 le1 le2 he fun h' tk e hk ex => ?_) (F.args_zip_next_1 _))))
    obtain ⟨o, ho, hc⟩ := ex
    refine wpAny_bind (wpAny_isInstance (T := "StopIteration") (b := true) ⟨o, ho, hc⟩ isSubtype_stop ?_)
    exact wpAny_pure (hQ _ _ hk)
theorem ZSt.over {S0 : Addr} {h h' : Heap} (D1 : Draws prog w A i1 fp1 n1 P1 St1) (D2 : Draws prog w A i2 fp2 n2 P2 St2) (st : ZSt z TI TO i1 i2 S0 St1 St2 h i) (nS : S0 ≠ z ∧ S0 ≠ TI ∧ S0 ≠ TO ∧ S0 ∉ fp1 ∧ S0 ∉ fp2) (k : ∀ b o, b ≠ S0 → h.get? b = some o → h'.get? b = some o) : ZSt z TI TO i1 i2 S0 St1 St2 h' i := by
  obtain ⟨hTI, s1, s2, hh⟩ := st
  obtain ⟨n1, n2, n3, n4, n5⟩ := nS
  refine ⟨k _ _ n2.symm hTI, D1.frame _ _ _ s1 fun b hb o e => k b o (fun q => n4 (q ▸ hb)) e, D2.frame _ _ _ s2 fun b hb o e => k b o (fun q => n5 (q ▸ hb)) e, ?_⟩
  rcases hh with ⟨hz, x0, y0, hTO⟩ | ⟨T, f, oT, hz, hT, nT⟩
  · exact .inl ⟨k _ _ n1.symm hz, x0, y0, k _ _ n3.symm hTO⟩
  · exact .inr ⟨T, f, oT, k _ _ n1.symm hz, k _ _ nT hT, nT⟩
/-- the tuples made so far: above lo, in ascending order, of the items' pairs -/
structure ZlG (us vs : Array Value) (lo : Addr) (h : Heap) (as : List Addr) : Prop where
  rise : as.Pairwise (· < ·)
  above : ∀ a ∈ as, lo < a
  pairs : ∀ (j : Nat) (a : Addr), as[j]? = some a → ∃ x y, us[j]? = some x ∧ vs[j]? = some y ∧ IsPair h a x y
theorem zip_nolen : typeLookup (.type "zip") "__len__" = pure none := by rw [typeLookup_type, builtinLookup_eq_fast]; kernel_rfl
theorem zip_nohint : typeLookup (.type "zip") "__length_hint__" = pure none := by rw [typeLookup_type, builtinLookup_eq_fast]; kernel_rfl
theorem zl_loop {R : Result → Shared → Prop} {S0 : Addr} {us vs : Array Value} {h1 : Heap} {res : Value} {Sa Sb : Nat → Heap → Prop} (S : ZipSep2 z TI TO i1 i2 fp1 fp2) (D1 : Draws prog w A.in1.in1 i1 fp1 us.size (fun i v => us[i]? = some v) Sa) (D2 : Draws prog w A.in1.in1 i2 fp2 vs.size (fun i v => vs[i]? = some v) Sb)
    (lo : Addr) (nS : S0 ≠ z ∧ S0 ≠ TI ∧ S0 ≠ TO ∧ S0 ∉ fp1 ∧ S0 ∉ fp2) (hlo : S0 ≤ lo ∧ z ≤ lo ∧ TO ≤ lo ∧ i1 ≤ lo ∧ i2 ≤ lo) (hn : min us.size vs.size ≤ sizeLine)
    (hR : ∀ h' tk acc c as, (∀ b o, b ≠ S0 → b ≠ z → b ≠ TO → b ≠ i1 → b ≠ i2 → h1.get? b = some o → h'.get? b = some o) → h'.get? S0 = some { cls := .type "list", dict := none, data := .seq acc c, slots := #[] } → as.length = min us.size vs.size → ZlG us vs lo h' as →
      acc.toList = as.map Value.ref → R (.ok (.ret res)) { s with heap := h', toks := tk }) :
    ∀ (k i : Nat) (h : Heap) (tk c : Nat) (acc : Array Value) (as : List Addr), k + i = min us.size vs.size → ZSt z TI TO i1 i2 S0 Sa Sb h i → (∀ b o, b ≠ S0 → b ≠ z → b ≠ TO → b ≠ i1 → b ≠ i2 → h1.get? b = some o → h.get? b = some o) →
      h.get? S0 = some { cls := .type "list", dict := none, data := .seq acc c, slots := #[] } → acc.toList = as.map Value.ref → as.length = i → ZlG us vs lo h as → lo < h.objs.size →
      codeAny (model prog w) A (.builtin "list.extend.loop" ⟨[.ref S0, .ref z, res], []⟩) R { s with heap := h, toks := tk } := by
  have off : ∀ a, lo < a → a ≠ S0 ∧ a ≠ z ∧ a ≠ TO ∧ a ≠ i1 ∧ a ≠ i2 := fun a ha => ⟨Nat.ne_of_gt (Nat.lt_of_le_of_lt hlo.1 ha), Nat.ne_of_gt (Nat.lt_of_le_of_lt hlo.2.1 ha), Nat.ne_of_gt (Nat.lt_of_le_of_lt hlo.2.2.1 ha), Nat.ne_of_gt (Nat.lt_of_le_of_lt hlo.2.2.2.1 ha), Nat.ne_of_gt (Nat.lt_of_le_of_lt hlo.2.2.2.2 ha)⟩
  have nI1 : S0 ≠ i1 := fun e => nS.2.2.2.1 (e ▸ S.mem1)
  have nI2 : S0 ≠ i2 := fun e => nS.2.2.2.2 (e ▸ S.mem2)
  intro k
  induction k with
  | zero =>
    intro i h tk c acc as hk st hkeep hS hacc hal hG hlt
    refine codeAny_builtin PySem.F.entry_extend_loop ?_
    rw [Around.under_plainId PySem.F.plain_extend_loop _]; show wpAny _ A.in1 (pyNext (.ref z) >>= fun _ => _) _ _ _
    refine wpAny_bind (zs_end (s := { s with heap := h, toks := tk }) (A := A.in1) S D1 D2 st (by omega) (by omega) (by omega) fun h' tk' he => ?_)
    refine wpAny_pure (hR h' tk' acc c as (fun b o b1 b2 b3 b4 b5 e => he b o b2 b3 b4 b5 (hkeep b o b1 b2 b3 b4 b5 e)) (he S0 _ nS.1 nS.2.2.1 nI1 nI2 hS) (by omega) ⟨hG.rise, hG.above, fun j a hj => ?_⟩ hacc)
    obtain ⟨x, y, e1, e2, e3⟩ := hG.pairs j a hj
    obtain ⟨_, o2, o3, o4, o5⟩ := off a (hG.above a (List.mem_of_getElem? hj))
    exact ⟨x, y, e1, e2, he a _ o2 o3 o4 o5 e3⟩
  | succ k ih =>
    intro i h tk c acc as hk st hkeep hS hacc hal hG hlt
    have hsz : acc.size = i := by rw [← Array.length_toList, hacc, List.length_map, hal]
    have hSl : S0 < h.objs.size := Heap.lt_size hS
    refine codeAny_builtin PySem.F.entry_extend_loop ?_
    rw [Around.under_plainId PySem.F.plain_extend_loop _]; show wpAny _ A.in1 (pyNext (.ref z) >>= fun _ => _) _ _ _
    refine wpAny_bind (zs_item (s := { s with heap := h, toks := tk }) (A := A.in1) S D1 D2 st (by omega) (by omega) hSl fun x y h' tk' px py st' hp hz' hkp => ?_)
    dsimp only at px py hp hz' hkp ⊢
    have hS' := hkp S0 _ nS.1 nS.2.2.1 nI1 nI2 hS
    have up : ∀ b o, b ≠ S0 → h'.get? b = some o → (h'.update S0 (Obj.mapSeq (·.push (Value.ref h.objs.size)))).get? b = some o := fun b o hb e => (Heap.get?_update_other _ _ (Ne.symm hb)).trans e
    have newNe : h.objs.size ≠ S0 := Nat.ne_of_gt hSl
    show wpAny _ A.in1 (updateSeq S0 (·.push (Value.ref h.objs.size)) >>= fun _ => _) _ _ _; refine wpAny_bind ?_
    refine wpAny_updateSeq hS' rfl (wpAny_pure ⟨plainId_quiet PySem.F.plain_extend_loop _, ih (i + 1) _ tk' _ (acc.push (Value.ref h.objs.size)) (as ++ [h.objs.size]) (by omega) (ZSt.over D1 D2 st' nS up)
      (fun b o b1 b2 b3 b4 b5 e => up b o b1 (hkp b o b2 b3 b4 b5 (hkeep b o b1 b2 b3 b4 b5 e))) (Heap.get?_update_self _ hS' rfl) (by rw [Array.toList_push, hacc, List.map_append]; rfl) (by rw [List.length_append, hal]; rfl) ⟨?_, ?_, ?_⟩ ?_⟩) (by rw [hsz]; omega) (by show (acc.push (Value.ref h.objs.size)).size ≤ sizeLine + 1; rw [Array.size_push, hsz]; omega)
    · refine List.pairwise_append.mpr ⟨hG.rise, List.pairwise_singleton _ _, fun a ha b hb => ?_⟩
      rw [List.mem_singleton.mp hb]
      obtain ⟨j, hj⟩ := List.mem_iff_getElem?.mp ha
      obtain ⟨_, _, _, _, e⟩ := hG.pairs j a hj
      exact Heap.lt_size e
    · intro a ha
      rcases List.mem_append.mp ha with ha | ha
      · exact hG.above a ha
      · rw [List.mem_singleton.mp ha]
        exact hlt
    · intro j b hj
      by_cases h1 : j < as.length
      · rw [List.getElem?_append_left h1] at hj
        obtain ⟨x', y', e1, e2, e3⟩ := hG.pairs j b hj
        obtain ⟨o1, o2, o3, o4, o5⟩ := off b (hG.above b (List.mem_of_getElem? hj))
        exact ⟨x', y', e1, e2, up b _ o1 (hkp b _ o2 o3 o4 o5 e3)⟩
      · by_cases h2 : j = as.length
        · subst h2
          have hb : h.objs.size = b := by simpa using hj
          subst hb
          rw [hal]
          exact ⟨x, y, px, py, up _ _ newNe hp⟩
        · rw [List.getElem?_eq_none (by rw [List.length_append, List.length_singleton]; omega)] at hj
          cases hj
    · have e : (h'.update S0 (Obj.mapSeq (·.push (Value.ref h.objs.size)))).get? h.objs.size = _ := up _ _ newNe hp
      exact Nat.lt_trans hlt (Heap.lt_size e)
theorem zl_extend {R : Result → Shared → Prop} {S0 : Addr} {us vs : Array Value} {res : Value} {c0 : Nat} {Sa Sb : Nat → Heap → Prop} (S : ZipSep2 z TI TO i1 i2 fp1 fp2) (D1 : Draws prog w A.in1.in1 i1 fp1 us.size (fun i v => us[i]? = some v) Sa) (D2 : Draws prog w A.in1.in1 i2 fp2 vs.size (fun i v => vs[i]? = some v) Sb)
    (nS : S0 ≠ z ∧ S0 ≠ TI ∧ S0 ≠ TO ∧ S0 ∉ fp1 ∧ S0 ∉ fp2) (hlo : z ≤ S0 ∧ TO ≤ S0 ∧ i1 ≤ S0 ∧ i2 ≤ S0) (hn : min us.size vs.size ≤ sizeLine) (ty : s.TypeIs (.ref z) "zip") (hz : IsZip s.heap z TI TO .none)
    (st : ZSt z TI TO i1 i2 S0 Sa Sb s.heap 0) (hS : s.heap.get? S0 = some { cls := .type "list", data := .seq #[] c0 }) (hlt : S0 < s.heap.objs.size)
    (hR : ∀ h' tk acc c as, (∀ b o, b ≠ S0 → b ≠ z → b ≠ TO → b ≠ i1 → b ≠ i2 → s.heap.get? b = some o → h'.get? b = some o) → h'.get? S0 = some { cls := .type "list", dict := none, data := .seq acc c, slots := #[] } → as.length = min us.size vs.size → ZlG us vs S0 h' as →
      acc.toList = as.map Value.ref → R (.ok (.ret res)) { s with heap := h', toks := tk }) :
    wpAny (model prog w) A.in1 (Builtin.List.listExtendWith (.ref S0) (.ref z) res)
      (fun fin s' => match fin with | .done f => R (.ok f) s' | .again c' => c'.quiet = true ∧ codeAny (model prog w) A c' R s') (fun e s' => R (.error e) s') s := by
  have e1 : Builtin.List.listSameRef (.ref S0) (.ref z) = false := by simp [Builtin.List.listSameRef, nS.1]
  have e2 : (Value.type "zip" == Value.type "list") = false := by decide
  have e3 : (Value.type "zip" == Value.type "tuple") = false := by decide
  unfold Builtin.List.listExtendWith; refine wpAny_bind (wpAny_typeOf ty ?_)
  simp only [e1, e2, e3, Bool.or_false, Bool.false_eq_true, if_false]; refine wpAny_bind (wpAny_pyIter_zip hz ?_)
  refine wpAny_bind (wpAny_holding ?_); unfold Builtin.List.listLengthHint
  refine wpAny_bind (wpAny_specialOf ty zip_nolen ?_); show wpAny _ A.in1 (specialOf (Value.ref z) (Str.ofString "__length_hint__") >>= fun _ => _) _ _ _
  refine wpAny_bind (wpAny_specialOf ty zip_nohint ?_); refine wpAny_pure ?_
  show wpAny _ A.in1 (rule "list.extend.makes-room" >>= fun _ => Builtin.List.listTouch (.ref S0) >>= fun _ => again (.builtin "list.extend.loop" ⟨[.ref S0, .ref z, res], []⟩)) _ _ _
  refine wpAny_bind (wpAny_rule ?_); refine wpAny_bind ?_
  show wpAny _ A.in1 (updateSeq S0 (·.push .none) >>= fun _ => updateSeq S0 (·.pop)) _ _ _; refine wpAny_bind (wpAny_updateSeq hS rfl ?_)
  have g2 := Heap.get?_update_self (Obj.mapSeq (·.push Value.none)) hS rfl
  refine wpAny_updateSeq (hz := by seq_fits) g2 rfl ?_
  have g3 := Heap.get?_update_self (Obj.mapSeq (·.pop)) g2 rfl
  have oth : ∀ b o, b ≠ S0 → s.heap.get? b = some o → ((s.heap.update S0 (Obj.mapSeq (·.push Value.none))).update S0 (Obj.mapSeq (·.pop))).get? b = some o := fun b o hb e => (Heap.get?_update_other _ _ (Ne.symm hb)).trans ((Heap.get?_update_other _ _ (Ne.symm hb)).trans e)
  refine wpAny_pure ⟨plainId_quiet PySem.F.plain_extend_loop _, zl_loop (h1 := s.heap) S D1 D2 S0 nS ⟨Nat.le_refl _, hlo⟩ hn hR (min us.size vs.size) 0 _ _ _ #[] [] rfl (ZSt.over D1 D2 st nS oth) (fun b o hb _ _ _ _ e => oth b o hb e) g3 rfl rfl ⟨List.Pairwise.nil, (fun _ ha => nomatch ha), fun j a hj => by simp at hj⟩ ?_⟩
  exact Heap.lt_size g3
/-- list(z): z a zip that was just made -/
theorem zl_call {Q : Value → Shared → Prop} {us vs : Array Value} {Sa Sb : Nat → Heap → Prop} (S : ZipSep2 z TI TO i1 i2 fp1 fp2) (D1 : Draws prog w A.in1.in1.in1 i1 fp1 us.size (fun i v => us[i]? = some v) Sa) (D2 : Draws prog w A.in1.in1.in1 i2 fp2 vs.size (fun i v => vs[i]? = some v) Sb)
    (hn : min us.size vs.size ≤ sizeLine) (hz : IsZip s.heap z TI TO .none) (hTI : IsPair s.heap TI (.ref i1) (.ref i2)) (hTO : ∃ x y, IsPair s.heap TO x y) (s1 : Sa 0 s.heap) (s2 : Sb 0 s.heap) (f1 : ∀ b ∈ fp1, b < s.heap.objs.size) (f2 : ∀ b ∈ fp2, b < s.heap.objs.size)
    (hQ : ∀ h' tk acc c as, (∀ b o, b ≠ z → b ≠ TO → b ≠ i1 → b ≠ i2 → s.heap.get? b = some o → h'.get? b = some o) → h'.get? s.heap.objs.size = some { cls := .type "list", dict := none, data := .seq acc c, slots := #[] } → as.length = min us.size vs.size → ZlG us vs s.heap.objs.size h' as →
      acc.toList = as.map Value.ref → Q (.ref s.heap.objs.size) { s with heap := h', toks := tk }) :
    wpAny (model prog w) A (call (.type "list") [.ref z]) Q E s := by
  obtain ⟨x0, y0, hTO⟩ := hTO
  obtain ⟨h0, g, d, tk0, os⟩ := s
  have lz : z < h0.objs.size := Heap.lt_size hz
  have lTI : TI < h0.objs.size := Heap.lt_size hTI
  have lTO : TO < h0.objs.size := Heap.lt_size hTO
  have li1 := f1 i1 S.mem1
  have li2 := f2 i2 S.mem2
  have nS : h0.objs.size ≠ z ∧ h0.objs.size ≠ TI ∧ h0.objs.size ≠ TO ∧ h0.objs.size ∉ fp1 ∧ h0.objs.size ∉ fp2 := ⟨Nat.ne_of_gt lz, Nat.ne_of_gt lTI, Nat.ne_of_gt lTO, fun q => Nat.lt_irrefl _ (f1 _ q), fun q => Nat.lt_irrefl _ (f2 _ q)⟩
  refine callType_codes (Q₁ := fun obj t => obj = .ref h0.objs.size ∧ t = ⟨h0.push { cls := .type "list", data := .seq #[] }, g, d, tk0, os⟩) F.called_list (F.typeCall_list_1 _) F.entry_list_init (code_list_new _ ⟨rfl, rfl⟩) fun obj t ht => ?_
  obtain ⟨rfl, rfl⟩ := ht
  have gS : (h0.push { cls := .type "list", data := .seq #[] }).get? h0.objs.size = some { cls := .type "list", data := .seq #[] } := Heap.get?_push_size _ rfl
  have up : ∀ b o, h0.get? b = some o → (h0.push { cls := .type "list", data := .seq #[] }).get? b = some o := fun b o e => Heap.get?_push_of_some _ e
  refine ⟨⟨_, gS, rfl⟩, F.args_list_init_2 _ _, ?_⟩
  show wpAny _ _ (do let old ← Builtin.List.listItems (.ref h0.objs.size); Builtin.List.listUpdate (.ref h0.objs.size) (fun _ => #[]); letGo old.toList.reverse; Builtin.List.listExtendWith (.ref h0.objs.size) (.ref z) .none) _ _ _
  refine wpAny_bind ?_; unfold Builtin.List.listItems
  refine wpAny_bind (wpAny_seqItems gS rfl (wpAny_pure ?_))
  show wpAny _ _ (updateSeq h0.objs.size (fun _ => #[]) >>= fun _ => letGo (#[] : Array Value).toList.reverse >>= fun _ => Builtin.List.listExtendWith (.ref h0.objs.size) (.ref z) .none) _ _ _
  refine wpAny_bind (wpAny_updateSeq gS rfl ?_)
  have g2 := Heap.get?_update_self (Obj.mapSeq (fun _ => (#[] : Array Value))) gS rfl
  have oth : ∀ b o, b ≠ h0.objs.size → h0.get? b = some o → ((h0.push { cls := .type "list", data := .seq #[] }).update h0.objs.size (Obj.mapSeq (fun _ => (#[] : Array Value)))).get? b = some o := fun b o hb e => (Heap.get?_update_other _ _ (Ne.symm hb)).trans (up b o e)
  have low : ∀ b o, h0.get? b = some o → b ≠ h0.objs.size := fun b o e => Nat.ne_of_lt (Heap.lt_size e)
  have zs : ZSt z TI TO i1 i2 h0.objs.size Sa Sb h0 0 := ⟨hTI, s1, s2, .inl ⟨hz, x0, y0, hTO⟩⟩
  have z2 := oth _ _ (Nat.ne_of_lt lz) hz
  refine wpAny_bind (wpAny_letGo ?_)
  refine zl_extend (A := A.in1) S D1 D2 nS ⟨Nat.le_of_lt lz, Nat.le_of_lt lTO, Nat.le_of_lt li1, Nat.le_of_lt li2⟩ hn ⟨_, z2, rfl⟩ z2 (ZSt.over D1 D2 zs nS oth) g2 (Heap.lt_size g2) fun h' tk acc c as hk hS' hl hG hacc => ?_
  exact ⟨rfl, hQ h' tk acc c as (fun b o b2 b3 b4 b5 e => hk b o (low b o e) b2 b3 b4 b5 (oth b o (low b o e) e)) hS' hl hG hacc⟩
end
/-! the rule -/
def tListZip (k1 k2 : Bool) (K : PySem.W.Frag) (ta : TA) : TE := fun σ H Q => ta σ H fun vs H1 => ∃ a b xs ys, vs = [.ref a, .ref b] ∧ SqK k1 K H1 a xs ∧ SqK k2 K H1 b ys ∧
  ∀ H' l (ts : List Addr), Same H1 H' → H1 l = none → H' l = some (.lst (ts.map V.ref)) → Paired (fun (t : Addr) (p : V × V) => H' t = some (.tup [p.1, p.2])) ts (xs.zip ys) → Q (.ref l) H'
def putZ : Hp → List Addr → List (V × V) → Hp
  | H, a :: as, p :: ps => putZ (upd H a (.tup [p.1, p.2])) as ps
  | H, _, _ => H
theorem putZ_off {b : Addr} : ∀ (as : List Addr) (ps : List (V × V)) (H : Hp), b ∉ as → putZ H as ps b = H b
  | [], _, _, _ => rfl
  | _ :: _, [], _, _ => rfl
  | a :: as, p :: ps, H, h => by
    have h' := not_or.mp (fun q => h (List.mem_cons.mpr q))
    show putZ (upd H a _) as ps b = H b
    rw [putZ_off as ps _ h'.2, upd_ne h'.1]
theorem putZ_at : ∀ (as : List Addr) (ps : List (V × V)) (H : Hp), as.length = ps.length → as.Nodup → Paired (fun (t : Addr) (p : V × V) => putZ H as ps t = some (.tup [p.1, p.2])) as ps
  | [], [], _, _, _ => .nil
  | [], _ :: _, _, h, _ => by cases h
  | _ :: _, [], _, h, _ => by cases h
  | a :: as, p :: ps, H, h, hn => by
    obtain ⟨n1, n2⟩ := List.nodup_cons.mp hn
    refine .cons ?_ (putZ_at as ps (upd H a (.tup [p.1, p.2])) (Nat.succ.inj h) n2)
    show putZ (upd H a (.tup [p.1, p.2])) as ps a = _
    rw [putZ_off as ps _ n1, upd_same]
theorem paired_at {α β : Type} {F : α → β → Prop} : ∀ {xs : List α} {ys : List β}, Paired F xs ys → ∀ {i : Nat} {x : α}, xs[i]? = some x → ∃ y, ys[i]? = some y ∧ F x y
  | _, _, .nil, i, x, h => by cases h
  | _, _, .cons r t, 0, x, h => by
    cases h
    exact ⟨_, rfl, r⟩
  | _, _, .cons r t, i + 1, x, h => paired_at (i := i) t h
theorem vals_of_refs : ∀ as : List Addr, Vals (as.map V.ref) (as.map Value.ref)
  | [] => .nil
  | _ :: as => .cons rfl (vals_of_refs as)
section
variable {X : Cx} {p pz pos cpos : Pos} {e e2 : Expr} {ta : TA}
theorem pe_listZip (k1 k2 : Bool) {K : PySem.W.Frag} (hK : X.K = K) (hc : X.calm = true) (hg : Gl X "list") (hm : X.mg "list" = none) (hgz : Gl X "zip") (hmz : X.mg "zip" = none) (ha : PA X [e, e2] ta)
    (hs : starEach [e, e2] X.env = (false, eval e X.env) :: starEach [e2] X.env := by rfl) (hpl : (backTo cpos (starEach [e2] X.env)).any (·.1) = false := by rfl)
    (hs2 : starEach [.Call (.Name "zip" pz) [e, e2] [] cpos] X.env = (false, eval (.Call (.Name "zip" pz) [e, e2] [] cpos) X.env) :: starEach [] X.env := by rfl) :
    PE X (.Call (.Name "list" p) [.Call (.Name "zip" pz) [e, e2] [] cpos] [] pos) (tListZip k1 k2 K ta) := by
  subst hK
  refine ⟨fun pins s σ H Q I h => ?_⟩
  refine wpAny_Call_Name_kw (ld_blt I hg hm (show bootBuiltins "list" = some (.type "list") by decide +kernel) (PyProof.Rows.callWith_type1 ?_ hs2 rfl))
  rw [hs2]; show wpAny _ _ (spliced ((false, eval (.Call (.Name "zip" pz) [e, e2] [] cpos) X.env) :: backTo pos (starEach [] X.env))) _ _ s
  refine Calls.spliced_cons ?_
  refine Call_ (ld_blt I hgz hmz PyProof.Rows.boot_zip (PyProof.Rows.callWith_type1 (thn (ha.run cpos pins s σ H _ I h) fun us s1 hh => ?_) hs hpl))
  obtain ⟨vs, H1, I1, r1, a, b, xs, ys, rfl, qx, qy, q⟩ := hh
  obtain ⟨u1, u2, rfl, ru, rv⟩ := vals2 r1
  cases (show u1 = Value.ref a from ru)
  cases (show u2 = Value.ref b from rv)
  obtain ⟨us, rus, pu, lu⟩ := seqK I1 qx
  obtain ⟨ws, rws, pw, lw⟩ := seqK I1 qy
  have lus := rus.length
  have lws := rws.length
  refine zip_begins2 (bgK k1 a us.toArray) (bgK k2 b ws.toArray) pu pw fun h' hz hTI hTO o1 o2 hsz hk => ?_
  refine Calls.spliced_nil ?_
  have D := PySem.W.ktu_apart s1.heap.objs.size a b pu.lt pw.lt
  have hh : X.A.in1.in1.in1.handled = none := I1.ok.hd hc
  have lo4 : ∀ c, c ∈ [s1.heap.objs.size, a] ∨ c ∈ [s1.heap.objs.size + 1, b] → c < h'.objs.size := fun c hx => by
    have la : a < s1.heap.objs.size := pu.lt
    have lb : b < s1.heap.objs.size := pw.lt
    rw [hsz]
    simp only [List.mem_cons, List.not_mem_nil, or_false] at hx
    rcases hx with (rfl | rfl) | (rfl | rfl)
    · exact Nat.lt_add_of_pos_right (by decide)
    · exact Nat.lt_of_lt_of_le la (Nat.le_add_right _ _)
    · exact Nat.add_lt_add_left (by decide) _
    · exact Nat.lt_of_lt_of_le lb (Nat.le_add_right _ _)
  have ez : (xs.zip ys).length = min us.toArray.size ws.toArray.size := by
    rw [List.length_zip, List.size_toArray, List.size_toArray, lus, lws]
  refine zl_call (s := { s1 with heap := h' }) (sepK D) (drK (prog := X.prog) (w := X.w) k1 hh D.l1i1 us.toArray) (drK (prog := X.prog) (w := X.w) k2 hh D.l2i2 ws.toArray) (by rw [← ez, List.length_zip]; omega) hz hTI ⟨_, _, hTO⟩
    ⟨itK0 o1, pu.at fun o => hk a o⟩ ⟨itK0 o2, pw.at fun o => hk b o⟩ (fun c hx => lo4 c (.inl hx)) (fun c hx => lo4 c (.inr hx)) fun h2 tk acc c as hk2 hS hl hG hacc => ?_
  have kp0 : ∀ c o, s1.heap.get? c = some o → h2.get? c = some o := fun c o ho => by
    have lc : c < s1.heap.objs.size := Heap.lt_size ho
    refine hk2 c o ?_ ?_ ?_ ?_ (hk c o ho)
    · exact Nat.ne_of_lt (Nat.lt_of_lt_of_le lc (Nat.le_add_right _ _))
    · exact Nat.ne_of_lt (Nat.lt_of_lt_of_le lc (Nat.le_add_right _ _))
    · exact Nat.ne_of_lt lc
    · exact Nat.ne_of_lt (Nat.lt_of_lt_of_le lc (Nat.le_add_right _ _))
  have lN : s1.heap.objs.size ≤ h'.objs.size := by
    rw [hsz]
    exact Nat.le_add_right _ _
  have nl : h'.objs.size ∉ as := fun z => Nat.lt_irrefl _ (hG.above _ z)
  have nd : as.Nodup := List.Pairwise.imp (fun {x y} (q : x < y) => Nat.ne_of_lt q) hG.rise
  have hi : ∀ t ∈ as, s1.heap.objs.size ≤ t := fun t ht => Nat.le_trans lN (Nat.le_of_lt (hG.above t ht))
  have fr : ∀ t ∈ as, H1 t = none := fun t ht => I1.hok.fresh (hi t ht)
  have frl : H1 h'.objs.size = none := I1.hok.fresh lN
  have pz := putZ_at as (xs.zip ys) (upd H1 h'.objs.size (.lst (as.map V.ref))) (by rw [hl, ez]) nd
  have off : ∀ t, t ∉ as → t ≠ h'.objs.size → putZ (upd H1 h'.objs.size (.lst (as.map V.ref))) as (xs.zip ys) t = H1 t := fun t n1 n2 => by rw [putZ_off as _ _ n1, upd_ne n2]
  have low : ∀ t o, s1.heap.get? t = some o → t ∉ as ∧ t ≠ h'.objs.size := fun t o ho => ⟨fun z => absurd (Heap.lt_size ho) (Nat.not_lt.mpr (hi t z)), Nat.ne_of_lt (Nat.lt_of_lt_of_le (Heap.lt_size ho) lN)⟩
  have kp : Same H1 (putZ (upd H1 h'.objs.size (.lst (as.map V.ref))) as (xs.zip ys)) := fun t o ho => by
    rw [off t (fun z => by rw [fr t z] at ho; cases ho) (fun z => by rw [z, frl] at ho; cases ho)]
    exact ho
  have atl : putZ (upd H1 h'.objs.size (.lst (as.map V.ref))) as (xs.zip ys) h'.objs.size = some (.lst (as.map V.ref)) := by rw [putZ_off as _ _ nl, upd_same]
  have J : Inv X pins σ (putZ (upd H1 h'.objs.size (.lst (as.map V.ref))) as (xs.zip ys)) ⟨h2, s1.gens, s1.drawn, tk, s1.os⟩ := by
    refine I1.call' (ch := []) rfl ⟨fun t o ho _ _ _ => kp0 t o ho, fun t o ho _ _ _ => ⟨o.slots, kp0 t o ho⟩, fun t o ho n _ => ?_, fun t o ho _ => ⟨o, kp0 t o ho⟩, fun t _ ho => kp t _ ho, fun t _ _ ho => kp t _ ho, fun t ps ho => ⟨#[], by rw [kp t _ ho]; simp⟩⟩ (fun t u ho => ?_) I1.bare fun t z => by simp at z
    · obtain ⟨z1, z2⟩ := low t o ho
      rw [off t z1 z2]
      exact n
    · by_cases ht : t ∈ as
      · obtain ⟨j, hj⟩ := List.mem_iff_getElem?.mp ht
        obtain ⟨pr, p1, p2⟩ := paired_at pz hj
        rw [p2] at ho
        cases ho
        obtain ⟨x, y, g1, g2, g3⟩ := hG.pairs j t hj
        obtain ⟨q1, q2⟩ := List.getElem?_zip_eq_some.mp p1
        obtain ⟨u, a1, a2⟩ := rus.get q1
        obtain ⟨v, b1, b2⟩ := rws.get q2
        have ex : x = u := by
          have : us.toArray[j]? = some u := by simpa using a1
          rw [this] at g1
          exact (Option.some.inj g1).symm
        have ey : y = v := by
          have : ws.toArray[j]? = some v := by simpa using b1
          rw [this] at g2
          exact (Option.some.inj g2).symm
        subst ex ey
        exact ⟨Nat.le_of_ble_eq_true rfl, [x, y], .cons a2 (.cons b2 .nil), ⟨_, g3, rfl, _, rfl⟩⟩
      · by_cases ht2 : t = h'.objs.size
        · subst ht2
          rw [atl] at ho
          cases ho
          refine ⟨by rw [List.length_map, hl, ← ez, List.length_zip]; omega, acc.toList, c, by rw [hacc]; exact vals_of_refs as, ?_⟩
          rw [Array.toArray_toList]
          exact hS
        · rw [off t ht ht2] at ho
          exact (I1.hok t u ho).stay (fun d v _ y => kp0 d v y) (fun d y => kp d _ y) fun d _ y => kp d _ y
  exact ⟨V.ref h'.objs.size, _, J, rfl, q _ _ as kp frl atl pz⟩
end

/-! ### numbers modulo m -/
theorem pow_emod (a m : Int) : ∀ n : Nat, (a % m) ^ n % m = a ^ n % m
  | 0 => by rw [Int.pow_zero, Int.pow_zero]
  | n + 1 => by
    rw [Int.pow_succ, Int.pow_succ, Int.mul_emod, pow_emod a m n, Int.emod_emod, ← Int.mul_emod]
theorem mul_emod_l (a b m : Int) : (a % m) * b % m = a * b % m := by
  rw [Int.mul_emod, Int.emod_emod, ← Int.mul_emod]
theorem mul_emod_r (a b m : Int) : a * (b % m) % m = a * b % m := by
  rw [Int.mul_emod, Int.emod_emod, ← Int.mul_emod]
theorem emod_bd {a m : Int} (h : 0 < m) : 0 ≤ a % m ∧ a % m < m := ⟨Int.emod_nonneg _ (by omega), Int.emod_lt_of_pos _ h⟩
theorem sq_pow (s : Int) : ∀ k : Nat, (s * s) ^ k = s ^ (2 * k)
  | 0 => by rw [Int.pow_zero, Int.pow_zero]
  | k + 1 => by
    rw [Int.pow_succ, sq_pow s k, show 2 * (k + 1) = 2 * k + 1 + 1 by omega, Int.pow_succ, Int.pow_succ, Int.mul_assoc]
theorem power_odd {r s m t : Int} {n : Nat} (h : r * s ^ n % m = t % m) (o : n % 2 = 1) : (r * s % m) * (s * s % m) ^ (n / 2) % m = t % m := by
  rw [mul_emod_l, ← mul_emod_r, pow_emod, mul_emod_r, sq_pow, Int.mul_assoc, ← h]
  congr 1
  rw [show n = 2 * (n / 2) + 1 by omega, show 2 * ((2 * (n / 2) + 1) / 2) = 2 * (n / 2) by omega, Int.pow_succ, Int.mul_comm s]
theorem power_even {r s m t : Int} {n : Nat} (h : r * s ^ n % m = t % m) (o : ¬ n % 2 = 1) : r * (s * s % m) ^ (n / 2) % m = t % m := by
  rw [← mul_emod_r, pow_emod, mul_emod_r, sq_pow, ← h]
  congr 2
  rw [show 2 * (n / 2) = n by omega]

/-! ### steps -/
theorem iteD {p A B : Prop} [Decidable p] (h1 : p → A) (h2 : ¬ p → B) : if decide p = true then A else B := by
  by_cases h : p
  · rw [if_pos (decide_eq_true h)]
    exact h1 h
  · rw [if_neg (by rw [decide_eq_false h]; exact Bool.false_ne_true)]
    exact h2 h
theorem iteN {p A B : Prop} [Decidable p] (h1 : ¬ p → A) (h2 : p → B) : if (!decide p) = true then A else B := by
  by_cases h : p
  · rw [if_neg (by rw [decide_eq_true h]; decide)]
    exact h2 h
  · rw [if_pos (by rw [decide_eq_false h]; rfl)]
    exact h1 h
theorem iteB {c : Bool} {A B : Prop} (h1 : c = true → A) (h2 : c = false → B) : if c = true then A else B := by
  cases c with
  | true => exact iteT (h1 rfl)
  | false => exact iteF (h2 rfl)
theorem iteBn {c : Bool} {A B : Prop} (h1 : c = false → A) (h2 : c = true → B) : if (!c) = true then A else B := by
  cases c with
  | true => exact iteF (h2 rfl)
  | false => exact iteT (h1 rfl)
theorem kit_NoneType_tuple {K : PySem.W.Frag} : PySem.W.kitOne K (.type "NoneType") (.type "tuple") = some false := kit_ty (by decide +kernel)
theorem kit_NoneType_list {K : PySem.W.Frag} : PySem.W.kitOne K (.type "NoneType") (.type "list") = some false := kit_ty (by decide +kernel)
theorem kit_NoneType_bool {K : PySem.W.Frag} : PySem.W.kitOne K (.type "NoneType") (.type "bool") = some false := kit_ty (by decide +kernel)
theorem kit_NoneType_int {K : PySem.W.Frag} : PySem.W.kitOne K (.type "NoneType") (.type "int") = some false := kit_ty (by decide +kernel)
theorem kit_NoneType_str {K : PySem.W.Frag} : PySem.W.kitOne K (.type "NoneType") (.type "str") = some false := kit_ty (by decide +kernel)
theorem kit_bool_tuple {K : PySem.W.Frag} : PySem.W.kitOne K (.type "bool") (.type "tuple") = some false := kit_ty (by decide +kernel)
theorem kit_bool_list {K : PySem.W.Frag} : PySem.W.kitOne K (.type "bool") (.type "list") = some false := kit_ty (by decide +kernel)
theorem kit_bool_bool {K : PySem.W.Frag} : PySem.W.kitOne K (.type "bool") (.type "bool") = some true := kit_ty (by decide +kernel)
theorem kit_bool_int {K : PySem.W.Frag} : PySem.W.kitOne K (.type "bool") (.type "int") = some true := kit_ty (by decide +kernel)
theorem kit_bool_str {K : PySem.W.Frag} : PySem.W.kitOne K (.type "bool") (.type "str") = some false := kit_ty (by decide +kernel)
theorem kit_int_tuple {K : PySem.W.Frag} : PySem.W.kitOne K (.type "int") (.type "tuple") = some false := kit_ty (by decide +kernel)
theorem kit_int_list {K : PySem.W.Frag} : PySem.W.kitOne K (.type "int") (.type "list") = some false := kit_ty (by decide +kernel)
theorem kit_int_bool {K : PySem.W.Frag} : PySem.W.kitOne K (.type "int") (.type "bool") = some false := kit_ty (by decide +kernel)
theorem kit_int_int {K : PySem.W.Frag} : PySem.W.kitOne K (.type "int") (.type "int") = some true := kit_ty (by decide +kernel)
theorem kit_int_str {K : PySem.W.Frag} : PySem.W.kitOne K (.type "int") (.type "str") = some false := kit_ty (by decide +kernel)
theorem kit_str_tuple {K : PySem.W.Frag} : PySem.W.kitOne K (.type "str") (.type "tuple") = some false := kit_ty (by decide +kernel)
theorem kit_str_list {K : PySem.W.Frag} : PySem.W.kitOne K (.type "str") (.type "list") = some false := kit_ty (by decide +kernel)
theorem kit_str_bool {K : PySem.W.Frag} : PySem.W.kitOne K (.type "str") (.type "bool") = some false := kit_ty (by decide +kernel)
theorem kit_str_int {K : PySem.W.Frag} : PySem.W.kitOne K (.type "str") (.type "int") = some false := kit_ty (by decide +kernel)
theorem kit_str_str {K : PySem.W.Frag} : PySem.W.kitOne K (.type "str") (.type "str") = some true := kit_ty (by decide +kernel)
theorem kit_list_tuple {K : PySem.W.Frag} : PySem.W.kitOne K (.type "list") (.type "tuple") = some false := kit_ty (by decide +kernel)
theorem kit_list_list {K : PySem.W.Frag} : PySem.W.kitOne K (.type "list") (.type "list") = some true := kit_ty (by decide +kernel)
theorem kit_list_bool {K : PySem.W.Frag} : PySem.W.kitOne K (.type "list") (.type "bool") = some false := kit_ty (by decide +kernel)
theorem kit_list_int {K : PySem.W.Frag} : PySem.W.kitOne K (.type "list") (.type "int") = some false := kit_ty (by decide +kernel)
theorem kit_list_str {K : PySem.W.Frag} : PySem.W.kitOne K (.type "list") (.type "str") = some false := kit_ty (by decide +kernel)
theorem kit_tuple_tuple {K : PySem.W.Frag} : PySem.W.kitOne K (.type "tuple") (.type "tuple") = some true := kit_ty (by decide +kernel)
theorem kit_tuple_list {K : PySem.W.Frag} : PySem.W.kitOne K (.type "tuple") (.type "list") = some false := kit_ty (by decide +kernel)
theorem kit_tuple_bool {K : PySem.W.Frag} : PySem.W.kitOne K (.type "tuple") (.type "bool") = some false := kit_ty (by decide +kernel)
theorem kit_tuple_int {K : PySem.W.Frag} : PySem.W.kitOne K (.type "tuple") (.type "int") = some false := kit_ty (by decide +kernel)
theorem kit_tuple_str {K : PySem.W.Frag} : PySem.W.kitOne K (.type "tuple") (.type "str") = some false := kit_ty (by decide +kernel)
theorem iteCT {c : Bool} {A B : Prop} (hc : c = true) (h : A) : if c = true then A else B := by
  rw [if_pos hc]
  exact h
theorem iteCF {c : Bool} {A B : Prop} (hc : c = false) (h : B) : if c = true then A else B := by
  rw [if_neg (by rw [hc]; exact Bool.false_ne_true)]
  exact h
theorem propOnly {p : Prop} (h : p) : p := h
/-- where the walk is to stop: between two turns of a loop -/
inductive At (p : Prop) : Prop where
  | of (h : p)
  | also (h : p)
theorem At.out {p : Prop} : At p → p
  | .of h => h
  | .also h => h
theorem len_size {n : Nat} (h : n ≤ 100000) : n < sizeLine := Nat.lt_of_le_of_lt h (by decide)

/-! ### heaps -/
theorem same_new {H : Hp} {p : Addr} {o : HO} (h : H p = none) : Same H (upd H p o) := fun b x e => by
  rw [upd_ne (ne_of_none e h)]
  exact e
/-- a new object of our own is changed -/
theorem same_mut {H0 H : Hp} {p : Addr} {o : HO} (s : Same H0 H) (h : H0 p = none) : Same H0 (upd H p o) := fun b x e => by
  rw [upd_ne (ne_of_none e h)]
  exact s b x e
/-- the list of a pool, by its look: a reference, then an int -/
def poolV : List V → Bool
  | .ref _ :: .int _ :: _ => true
  | _ => false
def poolO : HO → Bool
  | .lst xs => poolV xs
  | _ => false
/-- all that was tracked is as it was, but for pools -/
def Keep (H H' : Hp) : Prop := ∀ b o, H b = some o → poolO o = false → H' b = some o
theorem Keep.refl (H : Hp) : Keep H H := fun _ _ h _ => h
theorem Keep.trans {H H1 H2 : Hp} (a : Keep H H1) (b : Keep H1 H2) : Keep H H2 := fun c o h p => b c o (a c o h p) p
theorem keep_same {H H' : Hp} (s : Same H H') : Keep H H' := fun b o h _ => s b o h
theorem keep_new {H : Hp} {p : Addr} {o : HO} (h : H p = none) : Keep H (upd H p o) := keep_same (same_new h)
theorem keep_mut {H0 H : Hp} {p : Addr} {o : HO} (s : Keep H0 H) (h : H0 p = none) : Keep H0 (upd H p o) := fun b x e f => by
  rw [upd_ne (ne_of_none e h)]
  exact s b x e f
theorem keep_pool {H0 H : Hp} {p : Addr} {o u : HO} (s : Keep H0 H) (h : H0 p = some u) (hu : poolO u = true) : Keep H0 (upd H p o) := fun b x e f => by
  have n : b ≠ p := fun z => by
    subst z
    rw [h] at e
    cases e
    rw [hu] at f
    cases f
  rw [upd_ne n]
  exact s b x e f
/-! ### data -/
mutual
inductive Rp (H : Hp) : V → PyData → Prop
  | non : Rp H .non .none
  | bl (b : Bool) : Rp H (.bl b) (.bool b)
  | int (i : Int) : Rp H (.int i) (.int i)
  | str (x : Str) : Rp H (.str x) (.str x)
  | lst {a : Addr} {xs : List V} {ds : List PyData} : H a = some (.lst xs) → poolV xs = false → RpAll H xs ds → Rp H (.ref a) (.list ds)
  | tup {a : Addr} {xs : List V} {ds : List PyData} : H a = some (.tup xs) → RpAll H xs ds → Rp H (.ref a) (.tuple ds)
inductive RpAll (H : Hp) : List V → List PyData → Prop
  | nil : RpAll H [] []
  | cons {v : V} {vs : List V} {d : PyData} {ds : List PyData} : Rp H v d → RpAll H vs ds → RpAll H (v :: vs) (d :: ds)
end
mutual
theorem Rp.keep {H H' : Hp} (k : Keep H H') : ∀ {v : V} {d : PyData}, Rp H v d → Rp H' v d
  | _, _, .non => .non
  | _, _, .bl b => .bl b
  | _, _, .int i => .int i
  | _, _, .str x => .str x
  | _, _, .lst h p r => .lst (k _ _ h p) p (RpAll.keep k r)
  | _, _, .tup h r => .tup (k _ _ h rfl) (RpAll.keep k r)
theorem RpAll.keep {H H' : Hp} (k : Keep H H') : ∀ {vs : List V} {ds : List PyData}, RpAll H vs ds → RpAll H' vs ds
  | _, _, .nil => .nil
  | _, _, .cons a r => .cons (Rp.keep k a) (RpAll.keep k r)
end
theorem RpAll.length {H : Hp} : ∀ {vs : List V} {ds : List PyData}, RpAll H vs ds → vs.length = ds.length
  | _, _, .nil => rfl
  | _, _, .cons _ r => congrArg (· + 1) (RpAll.length r)
theorem RpAll.get {H : Hp} : ∀ {vs : List V} {ds : List PyData} {i : Nat} {d : PyData}, RpAll H vs ds → ds[i]? = some d → ∃ v, vs[i]? = some v ∧ Rp H v d
  | _, _, _, _, .nil, e => by simp at e
  | _, _, 0, _, .cons a _, e => by
    simp only [List.getElem?_cons_zero, Option.some.injEq] at e
    subst e
    exact ⟨_, rfl, a⟩
  | _, _, i + 1, _, .cons _ r, e => by
    simp only [List.getElem?_cons_succ] at e
    obtain ⟨v, h1, h2⟩ := RpAll.get (i := i) r e
    exact ⟨v, h1, h2⟩
theorem RpAll.getV {H : Hp} : ∀ {vs : List V} {ds : List PyData} {i : Nat} {v : V}, RpAll H vs ds → vs[i]? = some v → ∃ d, ds[i]? = some d ∧ Rp H v d
  | _, _, _, _, .nil, e => by simp at e
  | _, _, 0, _, .cons a _, e => by
    simp only [List.getElem?_cons_zero, Option.some.injEq] at e
    subst e
    exact ⟨_, rfl, a⟩
  | _, _, i + 1, _, .cons _ r, e => by
    simp only [List.getElem?_cons_succ] at e
    obtain ⟨d, h1, h2⟩ := RpAll.getV (i := i) r e
    exact ⟨d, h1, h2⟩
theorem rp_ints {H : Hp} : ∀ ns : List Int, RpAll H (ns.map V.int) (ns.map PyData.int)
  | [] => .nil
  | n :: ns => .cons (.int n) (rp_ints ns)
theorem pool_ints (ns : List Int) : poolV (ns.map V.int) = false := by
  cases ns <;> rfl
/-! ### pools -/
/-- at p: the pool of a law, whatever it holds; its copy of the script at c -/
def PoolAt (H : Hp) (p c : Addr) : Prop := ∃ (ns : List Int) (i m s b z : Int),
  H p = some (.lst [.ref c, .int i, .int m, .int s, .int b, .int z]) ∧ H c = some (.lst (ns.map V.int)) ∧ 0 ≤ i ∧ 0 ≤ s ∧ s < 2147483647
theorem PoolAt.same {H H' : Hp} {p c : Addr} (s : Same H H') (h : PoolAt H p c) : PoolAt H' p c := by
  obtain ⟨ns, i, m, t, b, z, h1, h2, r⟩ := h
  exact ⟨ns, i, m, t, b, z, s _ _ h1, s _ _ h2, r⟩
/-- another list is changed beside it -/
theorem PoolAt.mut {H : Hp} {p c l : Addr} {o : HO} (h : PoolAt H p c) (n : l ≠ p) (nc : l ≠ c) : PoolAt (upd H l o) p c := by
  obtain ⟨ns, i, m, t, b, z, h1, h2, r⟩ := h
  exact ⟨ns, i, m, t, b, z, by rw [upd_ne n.symm]; exact h1, by rw [upd_ne nc.symm]; exact h2, r⟩
theorem PoolAt.at {H : Hp} {p c : Addr} (h : PoolAt H p c) : ∃ xs, H p = some (.lst xs) ∧ poolV xs = true := by
  obtain ⟨ns, i, m, t, b, z, h1, _⟩ := h
  exact ⟨_, h1, rfl⟩
theorem PoolAt.ne {H : Hp} {p c l : Addr} (h : PoolAt H p c) (f : H l = none) : l ≠ p ∧ l ≠ c := by
  obtain ⟨ns, i, m, t, b, z, h1, h2, _⟩ := h
  exact ⟨(ne_of_none h1 f).symm, (ne_of_none h2 f).symm⟩

/-! ### built-ins -/
theorem bt_isinstance : bootBuiltins "isinstance" = some (.builtin "isinstance") := by decide +kernel
theorem bt_len : bootBuiltins "len" = some (.builtin "len") := by decide +kernel
theorem bt_sum : bootBuiltins "sum" = some (.builtin "sum") := by decide +kernel
theorem bt_max : bootBuiltins "max" = some (.builtin "max") := by decide +kernel
theorem bt_min : bootBuiltins "min" = some (.builtin "min") := by decide +kernel
theorem bt_abs : bootBuiltins "abs" = some (.builtin "abs") := by decide +kernel
theorem bt_any : bootBuiltins "any" = some (.builtin "any") := by decide +kernel
theorem bt_all : bootBuiltins "all" = some (.builtin "all") := by decide +kernel
theorem bt_sorted : bootBuiltins "sorted" = some (.builtin "sorted") := by decide +kernel
theorem bt_int : bootBuiltins "int" = some (.type "int") := by decide +kernel
theorem bt_bool : bootBuiltins "bool" = some (.type "bool") := by decide +kernel
theorem bt_str : bootBuiltins "str" = some (.type "str") := by decide +kernel
theorem bt_list : bootBuiltins "list" = some (.type "list") := by decide +kernel
theorem bt_tuple : bootBuiltins "tuple" = some (.type "tuple") := by decide +kernel
theorem bt_dict : bootBuiltins "dict" = some (.type "dict") := by decide +kernel
structure Blt (mg : Str → Option Value) : Prop where
  isinstance : mg "isinstance" = none
  len : mg "len" = none
  sum : mg "sum" = none
  max : mg "max" = none
  min : mg "min" = none
  abs : mg "abs" = none
  any : mg "any" = none
  all : mg "all" = none
  sorted : mg "sorted" = none
  int : mg "int" = none
  bool : mg "bool" = none
  str : mg "str" = none
  list : mg "list" = none
  tuple : mg "tuple" = none
  dict : mg "dict" = none
  range : mg "range" = none
  enumerate : mg "enumerate" = none
  zip : mg "zip" = none

theorem at_ints {ns : List Int} {v : Int} (h0 : 0 ≤ v) (h1 : v < ns.length) : ∃ n, n ∈ ns ∧ atI (ns.map V.int) v = some (.int n) := by
  have hlt : v.toNat < ns.length := by omega
  refine ⟨ns[v.toNat], List.getElem_mem hlt, at_of (j := v.toNat) (by omega) ?_⟩
  rw [List.getElem?_map, List.getElem?_eq_getElem hlt]
  rfl

/-! ### rules with the written part told (so that they serve in a comprehension's block, too) -/
def rLen (K : PySem.W.Frag) : List V → Hp → VK → Prop := fun xs H Q => ∃ p ys, xs = [V.ref p] ∧ (SqL K H p ys ∨ SqT K H p ys) ∧ Q (.int (ys.length : Nat)) H
def rListOf (K : PySem.W.Frag) : List V → Hp → VK → Prop := fun xs H Q => ∃ p ys, xs = [V.ref p] ∧ (SqL K H p ys ∨ SqT K H p ys) ∧ ∀ l, H l = none → Q (.ref l) (upd H l (.lst ys))
def rTupOf (K : PySem.W.Frag) : List V → Hp → VK → Prop := fun xs H Q => ∃ p ys, xs = [V.ref p] ∧ ((SqL K H p ys ∧ ∀ l, H l = none → Q (.ref l) (upd H l (.tup ys))) ∨ (SqT K H p ys ∧ Q (.ref p) H))
section
variable {X : Cx} {K : PySem.W.Frag} {e o b : Expr} {es : List Expr} {ta to : TE} {t : TA} {f : Str} {pos : Pos}
theorem kfld (hK : X.K = K) (he : PE X e ta) (hb : attributeBase e f X.env (eval e X.env) = eval e X.env := by rfl) : PE X (.Attribute e f pos) (tFld K ta f) := by
  subst hK
  exact pe_fld he hb
theorem kixl (hK : X.K = K) : IxR X (rIxL K) := by
  subst hK
  exact ix_list
theorem kixt (hK : X.K = K) : IxR X (rIxT K) := by
  subst hK
  exact ix_tup
theorem kixs (hK : X.K = K) : IxR X (rIx K) := by
  subst hK
  exact ix_seq
theorem ksll (hK : X.K = K) : SlR X (rSlL K) := by
  subst hK
  exact sl_list
theorem kslt (hK : X.K = K) : SlR X (rSlT K) := by
  subst hK
  exact sl_tup
theorem kin (hK : X.K = K) : OpR X (compareOp .In) (rIn K false) := by
  subst hK
  exact op_in_seq
theorem knin (hK : X.K = K) : OpR X (compareOp .NotIn) (rIn K true) := by
  subst hK
  exact op_notIn_seq
theorem keqd (hK : X.K = K) (hu : X.A.units + 64 < cLine) : OpR X (compareOp .Eq) (rEqD K) := by
  subst hK
  exact op_eqD hu
theorem kned (hK : X.K = K) (hu : X.A.units + 64 < cLine) : OpR X (compareOp .NotEq) (rNeD K) := by
  subst hK
  exact op_neD hu
theorem kcatt (hK : X.K = K) : OpR X (binaryOp .Add) (rCatT K) := by
  subst hK
  exact op_catT
theorem klen (hK : X.K = K) : CallR X (.builtin "len") (rLen K) := by
  subst hK
  exact call_len_seq
theorem klist (hK : X.K = K) : CallR X (.type "list") (rListOf K) := by
  subst hK
  exact call_list_of
theorem ktuple (hK : X.K = K) : CallR X (.type "tuple") (rTupOf K) := by
  subst hK
  exact call_tuple_of
theorem kisi (hK : X.K = K) : CallR X (.builtin "isinstance") (rIsi K) := by
  subst hK
  exact call_isi
theorem kisiT (hK : X.K = K) : CallR X (.builtin "isinstance") (rIsiT K) := by
  subst hK
  exact call_isiT
theorem kany (hK : X.K = K) (hc : X.calm = true) : CallR X (.builtin "any") (rAny K) := by
  subst hK
  exact cr_any hc
theorem kall (hK : X.K = K) (hc : X.calm = true) : CallR X (.builtin "all") (rAll K) := by
  subst hK
  exact cr_all hc
theorem ksum (hK : X.K = K) (hc : X.calm = true) : CallR X (.builtin "sum") (rSum K) := by
  subst hK
  exact cr_sum hc
theorem kmax (hK : X.K = K) (hc : X.calm = true) : CallR X (.builtin "max") (rMax K) := by
  subst hK
  exact cr_max hc
theorem kindex (hK : X.K = K) : MtR X "list.index" (rIndex K) := by
  subst hK
  exact mt_index
theorem kpil (hK : X.K = K) {tg l : Expr} {tl : TE} (h : PE X l tl) : PI X tg l (iList K tl) := by
  subst hK
  exact pi_list h
theorem kpit (hK : X.K = K) {tg l : Expr} {tl : TE} (h : PE X l tl) : PI X tg l (iTup K tl) := by
  subst hK
  exact pi_tup h
theorem kgtup (hK : X.K = K) {es : List Expr} {k n : Nat} {t : TGs} (hc : X.calm = true) (h : PGs X es t) (hn : (assignEach es X.env).length = n := by rfl) (hst : (assignEach es X.env).findIdx? (·.1) = none := by rfl) : PG X (.Tuple es k pos) (gTup K n t) := by
  subst hK
  exact pg_tup hc h hn hst
end

/-! ### a walk over a list or a tuple, the kind told -/
def ItS (k : Bool) (K : PySem.W.Frag) (a : Addr) : It := match k with
  | true => Itt K a
  | false => Itl K a
def iK (k : Bool) (K : PySem.W.Frag) (tl : TE) : TI := fun σ H R => tl σ H fun x H1 => ∃ a, x = .ref a ∧ (∃ xs, SqK k K H1 a xs) ∧ R (ItS k K a) H1
theorem pi_K (k : Bool) {X : Cx} {K : PySem.W.Frag} (hK : X.K = K) {tg l : Expr} {tl : TE} (h : PE X l tl) : PI X tg l (iK k K tl) := by
  subst hK
  cases k with
  | true => exact pi_tup h
  | false => exact pi_list h
theorem for_K {k : Bool} {K : PySem.W.Frag} {a : Addr} {xs : List V} {g : TG} {tb : TS} {D : Ends} {σ : L2.St} {H : Hp} (Pv : Nat → L2.St → Hp → Prop) (h0 : Pv 0 σ H) (hl : ∀ i σ H, i ≤ xs.length → Pv i σ H → SqK k K H a xs)
    (hs : ∀ i x σ H, xs[i]? = some x → Pv i σ H → g x σ H fun σ2 H2 => tb { D with nx := Pv (i + 1), ct := Pv (i + 1), bk := D.nx } σ2 H2) (hd : ∀ σ H, Pv xs.length σ H → D.nx σ H) :
    ∃ W : Nat → Nat → L2.St → Hp → Prop, (∃ m, W 0 m σ H) ∧ ∀ i m σ H, W i m σ H →
      ((ItS k K a).stop i H ∧ D.nx σ H) ∨ ((ItS k K a).go i H ∧ ∃ N : L2.St → Hp → Prop, (∀ σ' H', N σ' H' → ∃ m', m' < m ∧ W (i + 1) m' σ' H') ∧ ∀ x H', (ItS k K a).yld i H x H' → g x σ H' fun σ2 H2 => tb { D with nx := N, ct := N, bk := D.nx } σ2 H2) := by
  cases k with
  | true => exact for_tup Pv h0 hl hs hd
  | false => exact for_list Pv h0 hl hs hd
theorem lc_K {k : Bool} {K : PySem.W.Frag} {a : Addr} {xs : List V} {g : TG} {tt : TT} {te : TE} {vs : List Nat} {σ : L2.St} {H1 : Hp} {D : Addr} {Qd : Hp → Prop} (Pv : Nat → Hp → Prop) (h0 : Pv 0 (upd H1 D (.lst []))) (hl : ∀ i H, i ≤ xs.length → Pv i H → SqK k K H a xs)
    (hs : ∀ i x H, xs[i]? = some x → Pv i H → g x (wipe σ vs) H fun σ2 H2 => wipe σ2 vs = wipe σ vs ∧ tt σ2 H2 fun b H3 =>
      if b = true then te σ2 H3 fun y H4 => ∃ acc, H4 D = some (.lst acc) ∧ acc.length < sizeLine ∧ Pv (i + 1) (upd H4 D (.lst (acc ++ [y]))) else Pv (i + 1) H3) (hd : ∀ H, Pv xs.length H → Qd H) :
    ∃ W : Nat → Nat → Hp → Prop, (∃ m, W 0 m (upd H1 D (.lst []))) ∧ ∀ i m H, W i m H →
      ((ItS k K a).stop i H ∧ Qd H) ∨ ((ItS k K a).go i H ∧ ∃ Nx : Hp → Prop, (∀ H', Nx H' → ∃ m', m' < m ∧ W (i + 1) m' H') ∧ ∀ x H', (ItS k K a).yld i H x H' → g x (wipe σ vs) H' fun σ2 H2 => wipe σ2 vs = wipe σ vs ∧ tt σ2 H2 fun b H3 =>
        if b = true then te σ2 H3 fun y H4 => ∃ acc, H4 D = some (.lst acc) ∧ acc.length < sizeLine ∧ Nx (upd H4 D (.lst (acc ++ [y]))) else Nx H3) := by
  cases k with
  | true => exact lc_tup Pv h0 hl hs hd
  | false => exact lc_list Pv h0 hl hs hd
theorem SqK.same {k : Bool} {K : PySem.W.Frag} {H H' : Hp} {a : Addr} {xs : List V} (s : Same H H') (h : SqK k K H a xs) : SqK k K H' a xs := by
  cases k with
  | true =>
    rcases h with (h | ⟨o, h⟩) | h
    · exact .inl (.inl (s _ _ h))
    · exact .inl (.inr ⟨o, s _ _ h⟩)
    · exact .inr h
  | false => exact Same.seq s h

theorem for_enum {K : PySem.W.Frag} {a : Addr} {xs : List V} {g : TG} {tb : TS} {D : Ends} {σ : L2.St} {H : Hp} (Pv : Nat → L2.St → Hp → Prop) (h0 : Pv 0 σ H) (hq : ∀ i σ H, Pv i σ H → SqL K H a xs)
    (hs : ∀ (i : Nat) (x : V) (T : Addr) (σ : L2.St) (H : Hp), xs[i]? = some x → Pv i σ H → H T = none → g (.ref T) σ (upd H T (.tup [.int (i : Nat), x])) fun σ2 H2 => tb { D with nx := Pv (i + 1), ct := Pv (i + 1), bk := D.nx } σ2 H2) (hd : ∀ σ H, Pv xs.length σ H → D.nx σ H) :
    ∃ W : Nat → Nat → L2.St → Hp → Prop, (∃ m, W 0 m σ H) ∧ ∀ i m σ H, W i m σ H →
      ((Ite K a).stop i H ∧ D.nx σ H) ∨ ((Ite K a).go i H ∧ ∃ N : L2.St → Hp → Prop, (∀ σ' H', N σ' H' → ∃ m', m' < m ∧ W (i + 1) m' σ' H') ∧ ∀ v H', (Ite K a).yld i H v H' → g v σ H' fun σ2 H2 => tb { D with nx := N, ct := N, bk := D.nx } σ2 H2) := by
  refine ⟨fun i m σ H => m + i = xs.length ∧ Pv i σ H, ⟨xs.length, rfl, h0⟩, ?_⟩
  rintro i m σ H ⟨hm, p⟩
  have qx := hq i σ H p
  by_cases hlt : i < xs.length
  · refine .inr ⟨⟨xs, xs[i], qx, List.getElem?_eq_getElem hlt⟩, Pv (i + 1), fun σ' H' p' => ⟨m - 1, by omega, by omega, p'⟩, fun v H' yl => ?_⟩
    obtain ⟨T, x, rfl, hT, rfl, f1⟩ := yl
    exact hs i x T σ H (f1 xs qx) p hT
  · have e : i = xs.length := by omega
    subst e
    exact .inl ⟨⟨xs, qx, Nat.le_refl _⟩, hd σ H p⟩
theorem pe_gint {X : Cx} {x : Str} {i : Int} {pos : Pos} (h : ∃ t, X.mg x = some (.int i t)) (hg : Gl X x := by rfl) (hd : (x == ("__debug__" : Str)) = false := by decide) : PE X (.Name x pos) (tC (.int i)) := by
  obtain ⟨t, h⟩ := h
  exact pe_glob hg h ⟨_, rfl⟩ (hd := hd)
theorem cut_take (xs : List V) (i : Nat) : cutV xs none (some (i : Int)) = xs.take i := by
  unfold cutV
  rw [HT.sIx_nat, HT.sIx_none, List.drop_zero, Nat.sub_zero, ← List.take_eq_take_min]
theorem cut_drop (xs : List V) (i : Nat) : cutV xs (some (i : Int)) none = xs.drop i := by
  unfold cutV
  rw [HT.sIx_nat, HT.sIx_none]
  by_cases h : i ≤ xs.length
  · rw [Nat.min_eq_left h]
    exact List.take_of_length_le (by rw [List.length_drop]; omega)
  · rw [Nat.min_eq_right (by omega), List.drop_eq_nil_of_le (Nat.le_refl _), List.drop_eq_nil_of_le (by omega), List.take_nil]
theorem inV_ints (n : Int) (ns : List Int) : inV (.int n) (ns.map V.int) = decide (n ∈ ns) := by
  unfold inV
  rw [List.any_map]
  rw [Bool.eq_iff_iff, decide_eq_true_eq, List.any_eq_true]
  refine ⟨fun ⟨y, hy, e⟩ => ?_, fun h => ⟨n, h, ?_⟩⟩
  · have e' : (y == n) = true := e
    rw [← eq_of_beq e']
    exact hy
  · show (n == n) = true
    exact beq_self_eq_true n
theorem flat_ints (ns : List Int) : (ns.map V.int).all flatV = true := by
  rw [List.all_map]
  exact List.all_eq_true.mpr fun _ _ => rfl
theorem sq_upd {K : PySem.W.Frag} {H : Hp} {b x C dx : Addr} {xs : List V} {fs : List (Str × V)} {o : HO} (h : SqL K H b xs) (hx : H x = some (.ins C dx fs)) : SqL K (upd H x o) b xs := by
  rcases h with (h | ⟨u, h⟩) | h
  · exact .inl (.inl (by rw [upd_ne (ne_of h hx (by intro z; cases z))]; exact h))
  · exact .inl (.inr ⟨u, by rw [upd_ne (ne_of h hx (by intro z; cases z))]; exact h⟩)
  · exact .inr h
theorem map_get {α : Type} {f : α → V} {l : List α} {i : Nat} {x : V} (h : (l.map f)[i]? = some x) : ∃ a, l[i]? = some a ∧ x = f a := by
  rw [List.getElem?_map] at h
  cases e : l[i]? with
  | none =>
    rw [e] at h
    cases h
  | some a =>
    rw [e] at h
    exact ⟨a, rfl, (Option.some.inj h).symm⟩
theorem take_map_snoc {α : Type} {f : α → V} {l : List α} {i : Nat} {a : α} (h : l[i]? = some a) : (l.take (i + 1)).map f = (l.take i).map f ++ [f a] := by
  rw [List.take_add_one, h, List.map_append]
  rfl

/-! ### dict(zip(..)) over lists and tuples in any mix -/
section
variable {prog : Program} {w : World}
theorem pzK (k1 k2 : Bool) (z TI TO i1 i2 l1 l2 : Addr) (D : ZipApart z TI TO i1 i2 l1 l2) (us vs : Array Value) :
    PairArg prog w "zip" z [z, TI, TO, i1, i2, l1, l2] [z, TO, i1, i2] (min us.size vs.size) (fun i k v => us[i]? = some k ∧ vs[i]? = some v)
      (fun h => IsZip h z TI TO .none ∧ IsPair h TI (.ref i1) (.ref i2) ∧ (∃ a b, IsPair h TO a b) ∧ ItK k1 h i1 l1 0 ∧ ItK k2 h i2 l2 0 ∧ SeK k1 h l1 us ∧ SeK k2 h l2 vs) where
  type := fun s ok => ⟨_, ok.1, rfl⟩
  notDict := by decide
  keep := fun h h' ok hk => by
    obtain ⟨hz, hTI, ⟨a, b, hTO⟩, h1, h2, hl1, hl2⟩ := ok
    exact ⟨hk _ _ hz, hk _ _ hTI, ⟨a, b, hk _ _ hTO⟩, h1.at fun o e => hk _ o e, h2.at fun o e => hk _ o e, hl1.at fun o e => hk _ o e, hl2.at fun o e => hk _ o e⟩
  there := fun h ok b hb => by
    obtain ⟨hz, hTI, ⟨a, c, hTO⟩, h1, h2, hl1, hl2⟩ := ok
    obtain ⟨o1, h1, _⟩ := h1.obj
    obtain ⟨o2, h2, _⟩ := h2.obj
    have g1 : ∃ o, h.get? l1 = some o := by
      cases k1 with
      | true => obtain ⟨o, e, _⟩ := hl1; exact ⟨o, e⟩
      | false => obtain ⟨o, e, _⟩ := hl1; exact ⟨o, e⟩
    have g2 : ∃ o, h.get? l2 = some o := by
      cases k2 with
      | true => obtain ⟨o, e, _⟩ := hl2; exact ⟨o, e⟩
      | false => obtain ⟨o, e, _⟩ := hl2; exact ⟨o, e⟩
    simp only [List.mem_cons, List.not_mem_nil, or_false] at hb
    rcases hb with rfl | rfl | rfl | rfl | rfl | rfl | rfl
    all_goals first | exact ⟨_, hz⟩ | exact ⟨_, hTI⟩ | exact ⟨_, hTO⟩ | exact ⟨_, h1⟩ | exact ⟨_, h2⟩ | exact g1 | exact g2
  sub := fun b hb => by simp at hb ⊢; rcases hb with rfl | rfl | rfl | rfl <;> simp
  noKeys := fun A s Q E hA ok h => getAttrOr_miss_zip ok.1 rfl rfl rfl zip_no_keys (by decide +kernel) hA h
  iter := fun A s d Q E hA ok hd hdf h => by
    obtain ⟨hz, hTI, ⟨a, b, hTO⟩, h1, h2, hl1, hl2⟩ := ok
    simp only [List.mem_cons, List.not_mem_nil, or_false, not_or] at hdf
    obtain ⟨dz, dTI, dTO, di1, di2, dl1, dl2⟩ := hdf
    have nS : d ≠ z ∧ d ≠ TI ∧ d ≠ TO ∧ d ∉ [i1, l1] ∧ d ∉ [i2, l2] := ⟨dz, dTI, dTO, by simp [di1, dl1], by simp [di2, dl2]⟩
    have hA1 : A.in1.handled = none := hA
    have d1 := drK (prog := prog) (w := w) (A := A.in1) k1 hA1 D.l1i1 us
    have d2 := drK (prog := prog) (w := w) (A := A.in1) k2 hA1 D.l2i2 vs
    refine wpAny_pyIter_zip hz (h z [z, TO, i1, i2] (fun i h => ZSt z TI TO i1 i2 d (StK k1 i1 l1 us) (StK k2 i2 l2 vs) h i) s.heap s.toks ?_
      ⟨hTI, ⟨h1, hl1⟩, ⟨h2, hl2⟩, .inl ⟨hz, a, b, hTO⟩⟩ (fun _ _ e => e) fun b hb => .inl hb)
    exact {
      off := fun hm => by
        simp only [List.mem_cons, List.not_mem_nil, or_false] at hm
        rcases hm with e | e | e | e
        · exact dz e
        · exact dTO e
        · exact di1 e
        · exact di2 e
      frame := fun i h₁ h₂ st hk => ZSt.over d1 d2 st nS hk
      item := fun i s₁ Q₁ E₁ hi st hds hQ => by
        refine zs_item (sepK D) d1 d2 st (by omega) (by omega) hds fun x y h' tk px py st' hp hsz hk => ?_
        refine hQ _ x y h' tk ⟨px, py⟩ (.inl ⟨_, hp, rfl, _, rfl⟩) st' fun b o hb e => ?_
        simp only [List.mem_cons, List.not_mem_nil, or_false, not_or] at hb
        exact hk b o hb.1 hb.2.1 hb.2.2.1 hb.2.2.2 e
      done := fun s₁ Q₁ E₁ st hQ => by
        refine zs_end (sepK D) d1 d2 st (by omega) (by omega) (by omega) fun h' tk hk => hQ h' tk fun b o hb e => ?_
        simp only [List.mem_cons, List.not_mem_nil, or_false, not_or] at hb
        exact hk b o hb.1 hb.2.1 hb.2.2.1 hb.2.2.2 e }
end
/-- dict(zip(e, e2)): the keys are texts or ints -/
def tDictZip (k1 k2 : Bool) (K : PySem.W.Frag) (ta : TA) : TE := fun σ H Q => ta σ H fun vs H1 => ∃ (a b : Addr) (ks : List Key) (ys : List V), vs = [.ref a, .ref b] ∧ SqK k1 K H1 a (ks.map kV) ∧ SqK k2 K H1 b ys ∧
  ∀ p, H1 p = none → Q (.ref p) (upd H1 p (.dK (mergeK [] (ks.zip ys))))
theorem zip_kv : ∀ {ks : List Key} {ys : List V} {vs : List Value}, Vals ys vs → KV (ks.zip ys) (ks.zip vs)
  | [], _, _, _ => .nil
  | _ :: _, _, _, .nil => .nil
  | _ :: _, _, _, .cons r t => .cons ⟨rfl, r⟩ (zip_kv t)
section
variable {X : Cx} {p pz pos cpos : Pos} {e e2 : Expr} {ta : TA}
theorem pe_dictZip (k1 k2 : Bool) {K : PySem.W.Frag} (hK : X.K = K) (hc : X.calm = true) (hg : Gl X "dict") (hm : X.mg "dict" = none) (hgz : Gl X "zip") (hmz : X.mg "zip" = none) (ha : PA X [e, e2] ta)
    (hs : starEach [e, e2] X.env = (false, eval e X.env) :: starEach [e2] X.env := by rfl) (hpl : (backTo cpos (starEach [e2] X.env)).any (·.1) = false := by rfl)
    (hs2 : starEach [.Call (.Name "zip" pz) [e, e2] [] cpos] X.env = (false, eval (.Call (.Name "zip" pz) [e, e2] [] cpos) X.env) :: starEach [] X.env := by rfl) :
    PE X (.Call (.Name "dict" p) [.Call (.Name "zip" pz) [e, e2] [] cpos] [] pos) (tDictZip k1 k2 K ta) := by
  subst hK
  refine ⟨fun pins s σ H Q I h => ?_⟩
  refine wpAny_Call_Name_kw (ld_blt I hg hm (show bootBuiltins "dict" = some (.type "dict") by decide +kernel) (PyProof.Rows.callWith_type1 ?_ hs2 rfl))
  rw [hs2]; show wpAny _ _ (spliced ((false, eval (.Call (.Name "zip" pz) [e, e2] [] cpos) X.env) :: backTo pos (starEach [] X.env))) _ _ s
  refine Calls.spliced_cons ?_
  refine Call_ (ld_blt I hgz hmz PyProof.Rows.boot_zip (PyProof.Rows.callWith_type1 (thn (ha.run cpos pins s σ H _ I h) fun us s1 hh => ?_) hs hpl))
  obtain ⟨vs, H1, I1, r1, a, b, ks, ys, rfl, qx, qy, q⟩ := hh
  obtain ⟨u1, u2, rfl, ru, rv⟩ := vals2 r1
  cases (show u1 = Value.ref a from ru)
  cases (show u2 = Value.ref b from rv)
  obtain ⟨us, rus, pu, lu⟩ := seqK I1 qx
  obtain ⟨ws, rws, pw, lw⟩ := seqK I1 qy
  have lus := rus.length
  have lws := rws.length
  rw [List.length_map] at lus lu
  refine zip_begins2 (bgK k1 a us.toArray) (bgK k2 b ws.toArray) pu pw fun h' hz hTI hTO o1 o2 hsz hk => ?_
  refine Calls.spliced_nil ?_
  have D := PySem.W.ktu_apart s1.heap.objs.size a b pu.lt pw.lt
  have ez : (ks.zip ws).length = min us.toArray.size ws.toArray.size := by
    rw [List.length_zip, List.size_toArray, List.size_toArray, lus]
  refine call_dict_pairs (s := { s1 with heap := h' }) (knd := mixKind X.prog X.w) (kvs := ks.zip ws) (pzK (prog := X.prog) (w := X.w) k1 k2 _ _ _ _ _ a b D us.toArray ws.toArray) (I1.ok.hd hc) ⟨hz, hTI, ⟨_, _, hTO⟩, itK0 o1, itK0 o2, pu.at fun o => hk a o, pw.at fun o => hk b o⟩
    ⟨ez, fun i key v hkv => ?_⟩ (by rw [← ez, List.length_zip]; omega) fun h2 tk hd' hk2 => ?_
  · obtain ⟨e1, e2⟩ := hkv
    have e1' : us[i]? = some key := by simpa using e1
    have e2' : ws[i]? = some v := by simpa using e2
    have hi : i < ks.length := by
      have := (List.getElem?_eq_some_iff.mp e1').1
      omega
    obtain ⟨u, g1, g2⟩ := rus.get (i := i) (x := kV ks[i]) (by rw [List.getElem?_map, List.getElem?_eq_getElem hi]; rfl)
    rw [e1'] at g1
    cases g1
    exact ⟨ks[i], by rw [List.getElem?_zip_eq_some]; exact ⟨List.getElem?_eq_getElem hi, e2'⟩, kV_is g2⟩
  · have kp0 : ∀ c o, s1.heap.get? c = some o → h2.get? c = some o := fun c o ho => by
      have lc : c < s1.heap.objs.size := Heap.lt_size ho
      refine hk2 c o (fun hb => ?_) (hk c o ho)
      simp only [List.mem_cons, List.not_mem_nil, or_false] at hb
      rcases hb with e | e | e | e
      · exact absurd (e ▸ lc) (Nat.not_lt.mpr (Nat.le_add_right _ _))
      · exact absurd (e ▸ lc) (Nat.not_lt.mpr (Nat.le_add_right _ _))
      · exact absurd (e ▸ lc) (Nat.lt_irrefl _)
      · exact absurd (e ▸ lc) (Nat.not_lt.mpr (Nat.le_add_right _ _))
    have lN : s1.heap.objs.size ≤ h'.objs.size := by
      rw [hsz]
      exact Nat.le_add_right _ _
    have hmS : (h'.objs.size == sysModules) = false := beq_eq_false_iff_ne.mpr (Nat.ne_of_gt (Nat.lt_of_lt_of_le I1.big lN))
    have rel : KV (ks.zip ys) (ks.zip ws) := zip_kv rws
    have hlen : (mergeK [] (ks.zip ys)).length ≤ sizeLine := by
      refine Nat.le_trans (length_mergeK (ks.zip ys) []) ?_
      rw [List.length_nil, Nat.zero_add, List.length_zip]
      omega
    exact ⟨.ref h'.objs.size, upd H1 h'.objs.size (.dK (mergeK [] (ks.zip ys))), I1.laid (t' := tk) kp0 lN (show ObjOk X.prog X.w _ _ _ (.dK (mergeK [] (ks.zip ys))) from ⟨hlen, hmS, merged [] (ks.zip ws), KV.merge rel .nil, hd'⟩), rfl, q _ (I1.hok.fresh lN)⟩
end

/-! ### x == y by an own __eq__ of both answers -/
/-- two instances of the class at C, by the promise of its own __eq__ -/
def rEqO (C : Addr) (sp : Sp) (E : XK) : R2 := fun x y H Q => ∃ a b dx dy fs gs, x = .ref a ∧ y = .ref b ∧ H a = some (.ins C dx fs) ∧ H b = some (.ins C dy gs) ∧ sp [.ref a, .ref b] H (fun v H' => (∃ c : Bool, v = .bl c) ∧ Q v H') E
theorem op_eqO {X : Cx} {n : Nat} {CX : CXT} {C f : Addr} {fd : FuncData} {ps : List Str} {sp : Sp} {E : XK} (F : FnOk X.prog X.w X.K X.mg X.base CX n f fd ps sp)
    (hs : PySem.W.findIn X.K (.ref C) "__eq__" = some (some (.ref f))) (hf : PySem.W.isFn X.K (.ref f) = true) (hb : Binds X.K fd ps []) (hx : Passes CX X E) (hr : Room n X.A) : OpR X (compareOp .Eq) (rEqO C sp E) := by
  intro pins s σ H x y v u Q I rx ry hq
  obtain ⟨a, b, dx, dy, fs, gs, rfl, rfl, ha, hb', hsp⟩ := hq
  show wpAny (model X.prog X.w) X.A (richCompare .Eq v u) (EP X pins σ Q) X.xe s
  cases rx
  cases ry
  obtain ⟨mA, J, _⟩ := ins_get I.hok ha
  obtain ⟨mB, J', _⟩ := ins_get I.hok hb'
  obtain ⟨od, J, _⟩ := J.look
  obtain ⟨od', J', _⟩ := J'.look
  obtain ⟨m, hF⟩ := I.fr
  refine PySem.W.cmp_K (op := .Eq) (tb := .ref C) hr.units0 hF I.ok.mod.kin J J'.type (by simp [PySem.W.notFirst]) hs hf ?_
  have hl := F.len _ _ _ _ hsp
  have r2 : Vals [V.ref a, V.ref b] [Value.ref a, Value.ref b] := .cons rfl (.cons rfl .nil)
  refine wpAny_call (codeAny_mono (F.run X.A X.stack s H ⟨[.ref a, .ref b], []⟩ [.ref a, .ref b] [.ref a, .ref b] _ E hr I.env0 (by
    have := hb s [.ref a, .ref b] I.kIn (by simpa using hl)
    simpa using this) r2 hsp) fun r s' hq => ?_)
  cases r with
  | error e => exact hx pins σ H s e s' I hq
  | ok fl =>
    cases fl with
    | ret w =>
      obtain ⟨z, H', I', rz, ⟨c, ez⟩, ex⟩ := I.after hq
      subst ez
      cases rz
      exact ⟨.bl c, H', I', rfl, ex⟩
    | next => exact False.elim hq
    | brk => exact False.elim hq
    | cont => exact False.elim hq

/-! ### t[::-1] of a tuple -/
section
variable {prog : Program} {w : World} {A : Around} {E : Value → Shared → Prop} {s : Shared}
theorem adjust_rev (n : Nat) : Builtin.Slice.sliceAdjust none none (-1) (n : Int) = ((n : Int) - 1, -1) := by
  unfold Builtin.Slice.sliceAdjust
  simp
theorem places_rev (n : Nat) : Builtin.Slice.slicePlaces ((n : Int) - 1) (-1) (-1) = n := by
  unfold Builtin.Slice.slicePlaces
  cases n with
  | zero => rfl
  | succ n =>
    have h1 : ¬ ((-1 : Int) > 0) := by omega
    simp only [h1, if_false]
    split <;> simp <;> omega
theorem fm_congr {α β : Type} {f g : α → Option β} : ∀ {l : List α}, (∀ x ∈ l, f x = g x) → l.filterMap f = l.filterMap g
  | [], _ => rfl
  | a :: l, h => by
    rw [List.filterMap_cons, List.filterMap_cons, h a List.mem_cons_self, fm_congr fun x hx => h x (List.mem_cons_of_mem _ hx)]
theorem pick_rev (xs : Array Value) : ((List.range xs.size).filterMap fun (m : Nat) => xs[(((xs.size : Int) - 1) + (m : Int) * (-1)).toNat]?).toArray = xs.toList.reverse.toArray := by
  have e : ∀ m ∈ List.range xs.size, xs[(((xs.size : Int) - 1) + (m : Int) * (-1)).toNat]? = xs.toList.reverse[m]? := fun m hm => by
    have hm := List.mem_range.mp hm
    rw [List.getElem?_reverse (by simpa using hm)]
    rw [show (((xs.size : Int) - 1) + (m : Int) * (-1)).toNat = xs.toList.length - 1 - m by rw [Array.length_toList]; omega]
    simp
  rw [fm_congr e]
  congr 1
  have : xs.size = xs.toList.reverse.length := by simp
  rw [this]
  generalize xs.toList.reverse = l
  refine List.ext_getElem? fun i => ?_
  have h2 : (List.range l.length).filterMap (fun m => l[m]?) = l := by
    have h3 : ∀ (l : List Value), (List.range l.length).filterMap (fun m => l[m]?) = l := by
      intro l
      induction l with
      | nil => rfl
      | cons a l ih =>
        rw [List.length_cons, List.range_succ_eq_map, List.filterMap_cons]
        show a :: List.filterMap _ _ = _
        rw [List.filterMap_map]
        show a :: List.filterMap (fun m => (a :: l)[m + 1]?) _ = _
        simp only [List.getElem?_cons_succ]
        rw [ih]
    exact h3 l
  rw [h2]
theorem sliceApplied_rev {sl : Addr} {vl vu vs : Value} {n : Nat} {Q : Int × Int × Nat → Shared → Prop} (hs : s.heap.IsSliceOf sl vl vu vs) (pl : IsPart vl none) (pu : IsPart vu none) (ps : IsPart vs (some (-1)))
    (h : Q ((n : Int) - 1, -1, n) s) : wpAny (model prog w) A (Builtin.Slice.sliceApplied (.ref sl) (pure (n : Int))) Q E s := by
  obtain ⟨os, hos, hcs, hds⟩ := id hs
  unfold Builtin.Slice.sliceApplied Builtin.Slice.sliceFields
  refine wpAny_bind (wpAny_bind (wpAny_field hos hds (x := vl) rfl (wpAny_bind (wpAny_field hos hds (x := vu) rfl (wpAny_bind (wpAny_field hos hds (x := vs) rfl (wpAny_pure ?_)))))))
  refine wpAny_bind (HT.slicePart_ ps ?_)
  show wpAny _ _ (if ((-1 : Int) == 0) = true then _ else _) _ _ s
  rw [if_neg (by decide)]
  refine wpAny_bind (HT.slicePart_ pl (wpAny_bind (HT.slicePart_ pu (wpAny_bind (wpAny_pure ?_)))))
  show wpAny _ _ (match Builtin.Slice.sliceAdjust none none (-1) (n : Int) with | (lo, hi) => pure (lo, (-1 : Int), Builtin.Slice.slicePlaces lo hi (-1))) _ _ s
  rw [adjust_rev]
  show wpAny _ _ (pure ((n : Int) - 1, (-1 : Int), Builtin.Slice.slicePlaces ((n : Int) - 1) (-1) (-1))) _ _ s
  rw [places_rev]
  exact wpAny_pure h
theorem getItem_tuple_rev {t sl : Addr} {items : Array Value} {vl vu vs : Value} {Q : Value → Shared → Prop} (ht : IsTup s.heap t items) (hs : s.heap.IsSliceOf sl vl vu vs) (pl : IsPart vl none) (pu : IsPart vu none) (ps : IsPart vs (some (-1)))
    (h : Q (.ref s.heap.objs.size) { s with heap := s.heap.push { cls := .type "tuple", data := .seq items.toList.reverse.toArray } })
    (hsz : items.size ≤ sizeLine) : wpAny (model prog w) A (getItem (.ref t) (.ref sl)) Q E s := by
  have htake : sizeOk (.seq items.toList.reverse.toArray) := by
    show items.toList.reverse.toArray.size ≤ sizeLine
    rw [List.size_toArray, List.length_reverse, Array.length_toList]
    exact hsz
  obtain ⟨os, hos, hcs, hds⟩ := id hs
  have hTs : s.TypeIs (.ref sl) "slice" := ⟨os, hos, hcs⟩
  unfold getItem
  try with_reducible refine wpAny_holding ?_
  first | refine wpAny_bind (wpAny_pure ?_) | skip
  refine wpAny_bind (wpAny_sequenceKey ht.typeIs (by decide) ?_)
  refine wpAny_bind (wpAny_callSpecial?_slot (name := Str.ofString "__getitem__") ht.typeIs PyProof.Rows.slot_tuple_getitem
    (wpAny_call_entry PyProof.Rows.slot_tuple_getitem ht.typeIs entry_tuple_getitem ?_ (args_tuple_getitem _ _)))
  show wpAny _ _ (Builtin.Tuple.tupleItemsOf (.ref t) >>= _) _ _ s
  refine wpAny_bind (tupleItemsOf_ ht ?_)
  refine wpAny_bind (wpAny_typeOf hTs ?_)
  rw [if_pos (by decide)]
  refine wpAny_bind (sliceApplied_rev hs pl pu ps ?_)
  have hno : ¬ (((((items.size : Int) - 1) == 0 && (-1 : Int) == 1) && items.size == items.size) = true) := by simp
  show wpAny _ _ (if (((items.size : Int) - 1) == 0 && (-1 : Int) == 1 && items.size == items.size) = true then _ else _) _ _ s
  rw [if_neg hno, pick_rev]
  first
    | exact wpAny_bind (wpAny_newObj_type (wpAny_pure ⟨_, rfl, wpAny_pure h⟩) htake)
    | exact wpAny_bind (wpAny_pure (wpAny_bind (wpAny_newObj_type (wpAny_pure ⟨_, rfl, wpAny_pure h⟩) htake)))
end
def tRevT (K : PySem.W.Frag) (te : TE) : TE := fun σ H Q => te σ H fun x H1 => ∃ a xs, x = .ref a ∧ SqT K H1 a xs ∧ ∀ p, H1 p = none → Q (.ref p) (upd H1 p (.tup xs.reverse))
theorem pe_revT {X : Cx} {K : PySem.W.Frag} (hK : X.K = K) {e : Expr} {te : TE} {k : Nat} {p1 p2 p3 pos : Pos} (he : PE X e te) : PE X (.Subscript e (.Slice none none (some (.UnaryOp .USub (.Constant (.int 1) k p1) p2)) p3) pos) (tRevT K te) := by
  subst hK
  refine ⟨fun pins s σ H Q I h => ?_⟩
  refine Subscript_ (thn (he.run pins s σ H _ I h) fun v s1 ⟨x, H1, I1, r1, q1⟩ => ?_)
  obtain ⟨a, xs, ex, hx, q⟩ := q1
  subst ex
  cases r1
  have hst : PO X (some (.UnaryOp .USub (.Constant (.int 1) k p1) p2)) (tPart (tUn (rU fun i => .int (-i)) (tC (.int 1)))) := po_some (pe_un un_neg pe_int)
  refine wpAny_Slice (thn (po_none.run pins s1 σ H1 (fun o H2 => o = none ∧ H2 = H1) I1 ⟨rfl, rfl⟩) fun vl s2 ⟨l, H2, I2, pl, el, e2⟩ => ?_)
  subst el e2
  refine thn (po_none.run pins s2 σ H2 (fun o H3 => o = none ∧ H3 = H2) I2 ⟨rfl, rfl⟩) fun vu s3 ⟨u, H3, I3, pu, eu, e3⟩ => ?_
  subst eu e3
  refine thn (hst.run pins s3 σ H3 (fun o H4 => o = some (-1) ∧ H4 = H3) I3 ⟨1, rfl, -1, rfl, rfl, rfl⟩) fun vs s4 ⟨o, H4, I4, ps, eo, e4⟩ => ?_
  subst eo e4
  have I5 : Inv X pins σ H4 { s4 with heap := s4.heap.push { cls := .type "slice", data := .fields #[vl, vu, vs] } } := I4.kept (t' := s4.toks) fun b ob q => Heap.get?_push_of_some _ q
  obtain ⟨its, r, ht, hz⟩ := I5.tuple hx
  have hlen := r.length
  show wpAny (model X.prog X.w) X.A (subscriptTail e (.Slice none none (some (.UnaryOp .USub (.Constant (.int 1) k p1) p2)) p3) (.ref a) (.ref s4.heap.objs.size)) (EP X pins σ Q) X.xe { s4 with heap := s4.heap.push { cls := .type "slice", data := .fields #[vl, vu, vs] } }
  refine tail_any (ops := [.ref a, .ref s4.heap.objs.size]) ht.typeIs (PyProof.Rows.slot_tuple_getitem.lookup) ?_ (by with_unfolding_all rfl)
  refine getItem_tuple_rev ht (Heap.IsSliceOf.new _ vl vu vs) pl pu ps ?_ (by rw [List.size_toArray]; omega)
  refine ⟨.ref _, _, I5.laid (t' := s4.toks) (o := .tup xs.reverse) (fun b ob q => Heap.get?_push_of_some _ q) (Nat.le_refl _) ?_, rfl, q _ (I5.hok.fresh (Nat.le_refl _))⟩
  exact ⟨by rw [List.length_reverse]; exact hz, _, r.reverse, IsTup.new _ _⟩
theorem krevL {X : Cx} {K : PySem.W.Frag} (hK : X.K = K) {e : Expr} {te : TE} {k : Nat} {p1 p2 p3 pos : Pos} (he : PE X e te) : PE X (.Subscript e (.Slice none none (some (.UnaryOp .USub (.Constant (.int 1) k p1) p2)) p3) pos) (tRevL K te) := by
  subst hK
  exact pe_revL he

/-! ### tuples that are made anew: their objects have no dict -/
def TpO (o : HO) (vs : List V) : Prop := ∃ ob : Obj, ob.dict = none ∧ o = .frz ob (.tup vs)
theorem TpO.sq {K : PySem.W.Frag} {H : Hp} {a : Addr} {o : HO} {vs : List V} (t : TpO o vs) (h : H a = some o) : SqT K H a vs := by
  obtain ⟨ob, _, rfl⟩ := t
  exact .inl (.inr ⟨ob, h⟩)
def tTupF (t : TA) : TE := fun σ H Q => t σ H fun xs H1 => xs.length ≤ sizeLine ∧ ∀ p o, H1 p = none → TpO o xs → Q (.ref p) (upd H1 p o)
theorem pe_tupF {X : Cx} {es : List Expr} {t : TA} {pos : Pos} {x1} (h : PA X es t) : PE X (.Tuple es x1 pos) (tTupF t) := by
  refine ⟨fun pins s σ H Q I hq => ?_⟩
  refine wpAny_Tuple_spliced (thn (h.run pos pins s σ H _ I hq) fun us s1 ⟨xs, H1, I1, r, z, q⟩ => ⟨by rw [← r.length]; exact z, ?_⟩)
  have hf : H1 s1.heap.objs.size = none := I1.hok.fresh (Nat.le_refl _)
  refine ⟨.ref s1.heap.objs.size, upd H1 s1.heap.objs.size (.frz { cls := .type "tuple", data := .seq us.toArray } (.tup xs)), I1.laid (t' := s1.toks) (fun b u e => Heap.get?_push_of_some _ e) (Nat.le_refl _) ?_, rfl, q _ _ hf ⟨_, rfl, rfl⟩⟩
  exact ⟨Heap.get?_push_size _ rfl, z, us, r, ⟨_, Heap.get?_push_size _ rfl, rfl, _, rfl⟩⟩
def rTupF (K : PySem.W.Frag) : List V → Hp → VK → Prop := fun xs H Q => ∃ p ys, xs = [V.ref p] ∧ ((SqL K H p ys ∧ ∀ l o, H l = none → TpO o ys → Q (.ref l) (upd H l o)) ∨ (SqT K H p ys ∧ Q (.ref p) H))
theorem ktupF {X : Cx} {K : PySem.W.Frag} (hK : X.K = K) : CallR X (.type "tuple") (rTupF K) := by
  subst hK
  intro pins s σ H xs us Q I r h
  obtain ⟨p, ys, rfl, h⟩ := h
  obtain ⟨u, rfl, ru⟩ := vals1 r
  cases ru
  rcases h with ⟨hs, q⟩ | ⟨hs, q⟩
  · obtain ⟨its, rv, pl, hz⟩ := I.list hs
    refine call_tuple_list pl.isList (fun h' hk => ?_) (by rw [List.size_toArray, ← rv.length]; exact hz)
    have I1 : Inv X pins σ H { s with heap := h' } := I.kept (t' := s.toks) hk
    have I2 : Inv X pins σ (upd H h'.objs.size (.frz { cls := .type "tuple", data := .seq its.toArray } (.tup ys))) { s with heap := h'.push { cls := .type "tuple", data := .seq its.toArray } } :=
      I1.laid (t' := s.toks) (fun b o e => Heap.get?_push_of_some _ e) (Nat.le_refl _) (show ObjOk X.prog X.w _ _ _ (.frz _ (.tup ys)) from ⟨Heap.get?_push_size _ rfl, hz, its, rv, IsTup.new _ _⟩)
    exact ⟨.ref h'.objs.size, _, I2, rfl, q _ _ (I1.hok.fresh (Nat.le_refl _)) ⟨_, rfl, rfl⟩⟩
  · obtain ⟨its, rv, pl, hz⟩ := I.tuple hs
    exact call_tuple_tup pl ⟨.ref p, H, I, rfl, q⟩
/-- t[lo:hi]: the whole of it is t itself -/
def rSlF (K : PySem.W.Frag) : V → Option Int → Option Int → Hp → VK → Prop := fun x lo hi H Q => ∃ a xs, x = .ref a ∧ SqT K H a xs ∧
  (HT.sIx xs.length 0 lo = 0 ∧ HT.sIx xs.length xs.length hi = xs.length → Q (.ref a) H) ∧ (¬ (HT.sIx xs.length 0 lo = 0 ∧ HT.sIx xs.length xs.length hi = xs.length) → ∀ p o, H p = none → TpO o (cutV xs lo hi) → Q (.ref p) (upd H p o))
theorem kslF {X : Cx} {K : PySem.W.Frag} (hK : X.K = K) : SlR X (rSlF K) := by
  subst hK
  intro pins s σ H x v vl vu lo hi sl Q I rx hs pl pu h
  obtain ⟨a, xs, rfl, hx, q1, q2⟩ := h
  cases rx
  obtain ⟨its, r, ht, hz⟩ := I.tuple hx
  have hlen : its.toArray.size = xs.length := by rw [List.size_toArray]; exact r.length.symm
  by_cases hw : HT.sIx xs.length 0 lo = 0 ∧ HT.sIx xs.length xs.length hi = xs.length
  · refine ⟨"tuple", _, PyProof.Rows.slot_tuple_getitem.lookup, ht.typeIs, ?_⟩
    exact getItem_tuple_whole ht hs pl pu (by rw [hlen]; exact hw) ⟨.ref a, H, I, rfl, q1 hw⟩
  · refine ⟨"tuple", _, PyProof.Rows.slot_tuple_getitem.lookup, ht.typeIs, ?_⟩
    refine HT.getItem_tuple_cut ht hs pl pu (by rw [hlen]; exact hw) ?_ (by rw [hlen]; exact hz)
    rw [hlen]
    refine ⟨.ref s.heap.objs.size, _, I.laid (t' := s.toks) (o := .frz { cls := .type "tuple", data := .seq ((its.toArray.toList.drop (HT.sIx xs.length 0 lo)).take (HT.sIx xs.length xs.length hi - HT.sIx xs.length 0 lo)).toArray } (.tup (cutV xs lo hi))) (fun b ob q => Heap.get?_push_of_some _ q) (Nat.le_refl _) ?_, rfl, q2 hw _ _ (I.hok.fresh (Nat.le_refl _)) ⟨_, rfl, rfl⟩⟩
    exact ⟨Heap.get?_push_size _ rfl, Nat.le_trans (cutV_length xs lo hi) hz, _, (r.drop (HT.sIx xs.length 0 lo)).take (HT.sIx xs.length xs.length hi - HT.sIx xs.length 0 lo), IsTup.new _ _⟩
/-- t + u -/
def rCatF (K : PySem.W.Frag) : R2 := fun x y H Q => ∃ a b xs ys, x = .ref a ∧ y = .ref b ∧ SqT K H a xs ∧ SqT K H b ys ∧ xs.length + ys.length ≤ sizeLine ∧
  (xs = [] → Q (.ref b) H) ∧ (xs ≠ [] → ys = [] → Q (.ref a) H) ∧ (xs ≠ [] → ys ≠ [] → ∀ p o, H p = none → TpO o (xs ++ ys) → Q (.ref p) (upd H p o))
theorem kcatF {X : Cx} {K : PySem.W.Frag} (hK : X.K = K) : OpR X (binaryOp .Add) (rCatF K) := by
  subst hK
  intro pins s σ H x y v u Q I rx ry h
  obtain ⟨a, b, xs, ys, rfl, rfl, ha, hb, hz, q0, q1, q2⟩ := h
  cases rx
  cases ry
  obtain ⟨its, r1, p1, _⟩ := I.tuple ha
  obtain ⟨its2, r2, p2, _⟩ := I.tuple hb
  by_cases hx : xs = []
  · subst hx
    cases r1
    exact cat_tup0 p1 p2 ⟨.ref b, H, I, rfl, q0 rfl⟩
  · refine HT.cat_tup p1 p2 (fun z => hx (r1.nil_iff.mp z)) (fun z => ⟨.ref a, H, I, rfl, q1 hx (r2.nil_iff.mp z)⟩) (fun z => ?_) (by rw [← r1.length, ← r2.length]; exact hz)
    refine ⟨.ref s.heap.objs.size, _, I.laid (t' := s.toks) (o := .frz { cls := .type "tuple", data := .seq (its ++ its2).toArray } (.tup (xs ++ ys))) (fun b ob q => Heap.get?_push_of_some _ q) (Nat.le_refl _) ?_, rfl, q2 hx (fun w => z (r2.nil_iff.mpr w)) _ _ (I.hok.fresh (Nat.le_refl _)) ⟨_, rfl, rfl⟩⟩
    exact ⟨Heap.get?_push_size _ rfl, by rw [List.length_append]; exact hz, _, r1.append r2, IsTup.new _ _⟩
/-- t[::-1] -/
def tRevF (K : PySem.W.Frag) (te : TE) : TE := fun σ H Q => te σ H fun x H1 => ∃ a xs, x = .ref a ∧ SqT K H1 a xs ∧ ∀ p o, H1 p = none → TpO o xs.reverse → Q (.ref p) (upd H1 p o)
theorem pe_revF {X : Cx} {K : PySem.W.Frag} (hK : X.K = K) {e : Expr} {te : TE} {k : Nat} {p1 p2 p3 pos : Pos} (he : PE X e te) : PE X (.Subscript e (.Slice none none (some (.UnaryOp .USub (.Constant (.int 1) k p1) p2)) p3) pos) (tRevF K te) := by
  subst hK
  refine ⟨fun pins s σ H Q I h => ?_⟩
  refine Subscript_ (thn (he.run pins s σ H _ I h) fun v s1 ⟨x, H1, I1, r1, q1⟩ => ?_)
  obtain ⟨a, xs, ex, hx, q⟩ := q1
  subst ex
  cases r1
  have hst : PO X (some (.UnaryOp .USub (.Constant (.int 1) k p1) p2)) (tPart (tUn (rU fun i => .int (-i)) (tC (.int 1)))) := po_some (pe_un un_neg pe_int)
  refine wpAny_Slice (thn (po_none.run pins s1 σ H1 (fun o H2 => o = none ∧ H2 = H1) I1 ⟨rfl, rfl⟩) fun vl s2 ⟨l, H2, I2, pl, el, e2⟩ => ?_)
  subst el e2
  refine thn (po_none.run pins s2 σ H2 (fun o H3 => o = none ∧ H3 = H2) I2 ⟨rfl, rfl⟩) fun vu s3 ⟨u, H3, I3, pu, eu, e3⟩ => ?_
  subst eu e3
  refine thn (hst.run pins s3 σ H3 (fun o H4 => o = some (-1) ∧ H4 = H3) I3 ⟨1, rfl, -1, rfl, rfl, rfl⟩) fun vs s4 ⟨o, H4, I4, ps, eo, e4⟩ => ?_
  subst eo e4
  have I5 : Inv X pins σ H4 { s4 with heap := s4.heap.push { cls := .type "slice", data := .fields #[vl, vu, vs] } } := I4.kept (t' := s4.toks) fun b ob q => Heap.get?_push_of_some _ q
  obtain ⟨its, r, ht, hz⟩ := I5.tuple hx
  have hlen := r.length
  show wpAny (model X.prog X.w) X.A (subscriptTail e (.Slice none none (some (.UnaryOp .USub (.Constant (.int 1) k p1) p2)) p3) (.ref a) (.ref s4.heap.objs.size)) (EP X pins σ Q) X.xe { s4 with heap := s4.heap.push { cls := .type "slice", data := .fields #[vl, vu, vs] } }
  refine tail_any (ops := [.ref a, .ref s4.heap.objs.size]) ht.typeIs (PyProof.Rows.slot_tuple_getitem.lookup) ?_ (by with_unfolding_all rfl)
  refine getItem_tuple_rev ht (Heap.IsSliceOf.new _ vl vu vs) pl pu ps ?_ (by rw [List.size_toArray]; omega)
  refine ⟨.ref _, _, I5.laid (t' := s4.toks) (o := .frz { cls := .type "tuple", data := .seq its.toArray.toList.reverse.toArray } (.tup xs.reverse)) (fun b ob q => Heap.get?_push_of_some _ q) (Nat.le_refl _) ?_, rfl, q _ _ (I5.hok.fresh (Nat.le_refl _)) ⟨_, rfl, rfl⟩⟩
  exact ⟨Heap.get?_push_size _ rfl, by rw [List.length_reverse]; exact hz, _, r.reverse, IsTup.new _ _⟩
/-! .index of a tuple without a dict -/
def tTM (K : PySem.W.Frag) (r : V → List V → Hp → VK → Prop) (to : TE) (t : TA) : TE := fun σ H Q => to σ H fun x H1 => (∃ a o vs, x = .ref a ∧ H1 a = some o ∧ TpO o vs) ∧ t σ H1 fun xs H2 => r x xs H2 Q
theorem pe_tm {X : Cx} {K : PySem.W.Frag} (hK : X.K = K) {o e : Expr} {es : List Expr} {to : TE} {t : TA} {name : Str} {apos cpos : Pos} {id : String} {r : V → List V → Hp → VK → Prop}
    (slot : Slot "tuple" name id) (hty : typeOf (.builtin id) = pure (.type "method_descriptor")) (hm : MtR X id r) (ho : PE X o to) (ha : PA X (e :: es) t)
    (hbase : attributeBase o name X.env (eval o X.env) = eval o X.env := by rfl)
    (hfew : ((backTo cpos (starEach (e :: es) X.env)).all (fun x => !x.1) && (backToKw cpos (keywordEach [] X.env)).all (fun x => x.1.isSome)
      && decide ((e :: es).length + ([] : List Keyword).length + (if ([] : List Keyword).isEmpty then 0 else 1) < 30)) = true := by rfl)
    (hline : (apos.endLine == cpos.line) = true := by rfl) (hs : starEach (e :: es) X.env = (false, eval e X.env) :: starEach es X.env := by rfl) (hplain : (backTo cpos (starEach es X.env)).any (·.1) = false := by rfl) :
    PE X (.Call (.Attribute o name apos) (e :: es) [] cpos) (tTM K r to t) := by
  subst hK
  refine ⟨fun pins s σ H Q I h => ?_⟩
  refine wpAny_Call_method_late hbase hfew hline rfl (thn (ho.run pins s σ H _ I h) fun v s1 ⟨x, H1, I1, r1, ty, q1⟩ => ?_)
  obtain ⟨a, o', vs, rfl, hA, ob, hd, rfl⟩ := ty
  cases r1
  obtain ⟨g1, _, its, _, ob2, g2, g3, _⟩ := (show ObjOk X.prog X.w H1 s1.heap a (.frz ob (.tup vs)) from I1.hok a _ hA)
  rw [g1] at g2
  cases g2
  refine ⟨"tuple", id, PySem.F.plainAttrs_tuple, slot, hty, ⟨ob, g1, g3⟩, fun b e => by cases e; exact ⟨ob, g1, hd⟩, ?_⟩
  have hA := ha.run cpos pins s1 σ H1 _ I1 q1
  rw [hs] at hA ⊢
  refine Calls.callWith_builtin (by show (false || (backTo cpos (starEach es X.env)).any (·.1)) = false; rw [hplain] <;> rfl) (Calls.evalArgs_plain ?_)
  exact thn hA fun us s2 ⟨vs', H2, I2, r2, q2⟩ => hm pins s2 σ H2 (.ref a) vs' (.ref a) us Q I2 rfl r2 q2
def rTIndex (K : PySem.W.Frag) : V → List V → Hp → VK → Prop := fun x xs H Q => ∃ p, ∃ ys : List Str, ∃ z j, x = .ref p ∧ xs = [.str z] ∧ SqT K H p (ys.map V.str) ∧ ys[j]? = some z ∧ (∀ m, m < j → ys[m]? ≠ some z) ∧ Q (.int (j : Nat)) H
theorem ktindex {X : Cx} {K : PySem.W.Frag} (hK : X.K = K) : MtR X "tuple.index" (rTIndex K) := by
  subst hK
  exact mt_tup_index

/-! ### zip, its pairs without a dict -/
/-- the turns of a zip of a and b -/
def ItzF (k1 k2 : Bool) (K : PySem.W.Frag) (a b : Addr) : It where
  go := fun i H => ∃ (xs ys : List V) (x y : V), SqK k1 K H a xs ∧ SqK k2 K H b ys ∧ xs[i]? = some x ∧ ys[i]? = some y
  yld := fun i H v H' => ∃ T x y o, v = .ref T ∧ H T = none ∧ TpO o [x, y] ∧ H' = upd H T o ∧ (∀ xs, SqK k1 K H a xs → xs[i]? = some x) ∧ ∀ ys, SqK k2 K H b ys → ys[i]? = some y
  stop := fun i H => ∃ xs ys : List V, SqK k1 K H a xs ∧ SqK k2 K H b ys ∧ i ≤ xs.length ∧ i ≤ ys.length ∧ (i = xs.length ∨ i = ys.length)
theorem turnF {P : Program} {w : World} {K : PySem.W.Frag} {elts : List Expr} {kk : Nat} {tpos : Pos} {k1 k2 : Bool} {a b z TI TO i1 i2 : Addr} (D : ZipApart z TI TO i1 i2 a b) :
    Turn P w K (.Tuple elts kk tpos) (ItzF k1 k2 K a b) [z, TI, TO, i1, i2] z
      (fun i h => IsZip h z TI TO .none ∧ IsPair h TI (.ref i1) (.ref i2) ∧ (∃ x y, IsPair h TO x y) ∧ ItK k1 h i1 a i ∧ ItK k2 h i2 b i) where
  mem := by simp
  obj := fun i h st c hc => by
    obtain ⟨hz, hTI, ⟨x, y, hTO⟩, g1, g2⟩ := st
    simp only [List.mem_cons, List.not_mem_nil, or_false] at hc
    rcases hc with rfl | rfl | rfl | rfl | rfl
    · exact ⟨_, hz, fun v q => nomatch q⟩
    · exact ⟨_, hTI, fun v q => nomatch q⟩
    · exact ⟨_, hTO, fun v q => nomatch q⟩
    · exact g1.obj
    · exact g2.obj
  keep := fun i h h' st q => by
    obtain ⟨hz, hTI, ⟨x, y, hTO⟩, g1, g2⟩ := st
    exact ⟨q z (by simp) _ hz, q TI (by simp) _ hTI, ⟨x, y, q TO (by simp) _ hTO⟩, g1.at fun o => q i1 (by simp) o, g2.at fun o => q i2 (by simp) o⟩
  item := by
    intro X hP hw hK hc i pins s σ H E I hf st hg
    subst hP hw hK
    obtain ⟨hz, hTI, ⟨x0, y0, hTO⟩, g1, g2⟩ := st
    obtain ⟨xs, ys, x, y, qx, qy, hx, hy⟩ := hg
    obtain ⟨us, ru, pu, _⟩ := seqK I qx
    obtain ⟨vs, rv, pv, _⟩ := seqK I qy
    obtain ⟨u, hu, ru1⟩ := ru.get hx
    obtain ⟨v, hv, rv1⟩ := rv.get hy
    have zl : z < s.heap.objs.size := Heap.lt_size hz
    have lu : i < us.toArray.size := by simpa using (List.getElem?_eq_some_iff.mp hu).1
    have lv : i < vs.toArray.size := by simpa using (List.getElem?_eq_some_iff.mp hv).1
    have hh : X.A.in1.handled = none := I.ok.hd hc
    have d1 := drK (prog := X.prog) (w := X.w) (A := X.A.in1) k1 hh D.l1i1 us.toArray
    have d2 := drK (prog := X.prog) (w := X.w) (A := X.A.in1) k2 hh D.l2i2 vs.toArray
    refine wpAny_pyNext_zipD2_item (sepK D) d1 d2 hz hTI hTO ⟨g1, pu⟩ ⟨g2, pv⟩ lu lv fun u' v' h' tk eu ev z1 t1 s1 s2 hT hsz hk => ?_
    have eu' : u' = u := by
      have : us.toArray[i]? = some u := by simpa using hu
      rw [this] at eu
      exact (Option.some.inj eu).symm
    have ev' : v' = v := by
      have : vs.toArray[i]? = some v := by simpa using hv
      rw [this] at ev
      exact (Option.some.inj ev).symm
    subst eu' ev'
    refine ⟨_, rfl, wpAny_letOwnedTupleGo_zip (s := { s with heap := h', toks := tk }) z1 fun h2 z2 sb => ?_⟩
    have hT2 : IsPair h2 s.heap.objs.size u' v' := (sb.2 _ (Nat.ne_of_gt zl)).trans hT
    have new : ObjOk X.prog X.w (upd H s.heap.objs.size (.frz { cls := .type "tuple", data := .seq #[u', v'] } (.tup [x, y]))) h2 s.heap.objs.size (.frz { cls := .type "tuple", data := .seq #[u', v'] } (.tup [x, y])) := ⟨hT2, Nat.le_of_ble_eq_true rfl, [u', v'], .cons ru1 (.cons rv1 .nil), ⟨_, hT2, rfl, _, rfl⟩⟩
    have ks : ∀ c o, c ∉ [z, TI, TO, i1, i2] → s.heap.get? c = some o → h2.get? c = some o := fun c o hb q => by
      simp only [List.mem_cons, List.not_mem_nil, or_false, not_or] at hb
      exact (sb.2 c hb.1).trans (hk c o hb.1 hb.2.2.1 hb.2.2.2.1 hb.2.2.2.2 q)
    have J := I.turnedNew (t' := tk) (ch := [z, TI, TO, i1, i2]) ks hf (Nat.le_refl _) new
    refine ⟨V.ref s.heap.objs.size, _, J, rfl, ⟨_, x, y, _, rfl, I.hok.fresh (Nat.le_refl _), ⟨_, rfl, rfl⟩, rfl, fun l hl => by rw [seqK_inj I hl qx]; exact hx, fun l hl => by rw [seqK_inj I hl qy]; exact hy⟩, ⟨z2, ?_, ⟨u', v', (sb.2 _ D.TOz).trans t1⟩, s1.1.at fun o q => (sb.2 _ D.i1z).trans q, s2.1.at fun o q => (sb.2 _ D.i2z).trans q⟩, fun c hcm => ?_⟩
    · exact (sb.2 _ D.TIz).trans (hk _ _ D.TIz D.TITO D.TIi1 D.TIi2 hTI)
    · have hlt : c < s.heap.objs.size := by
        simp only [List.mem_cons, List.not_mem_nil, or_false] at hcm
        rcases hcm with rfl | rfl | rfl | rfl | rfl
        · exact zl
        · exact Heap.lt_size hTI
        · exact Heap.lt_size hTO
        · obtain ⟨_, e, _⟩ := g1.obj
          exact Heap.lt_size e
        · obtain ⟨_, e, _⟩ := g2.obj
          exact Heap.lt_size e
      rw [upd_ne (Nat.ne_of_lt hlt)]
      exact (hf c hcm).1
  done := by
    intro X hP hw hK hc i pins s σ H E I hf st hg
    subst hP hw hK
    obtain ⟨hz, hTI, ⟨x0, y0, hTO⟩, g1, g2⟩ := st
    obtain ⟨xs, ys, qx, qy, lx, ly, hend⟩ := hg
    obtain ⟨us, ru, pu, _⟩ := seqK I qx
    obtain ⟨vs, rv, pv, _⟩ := seqK I qy
    have e1 := ru.length
    have e2 := rv.length
    have hh : X.A.in1.handled = none := I.ok.hd hc
    have d1 := drK (prog := X.prog) (w := X.w) (A := X.A.in1) k1 hh D.l1i1 us.toArray
    have d2 := drK (prog := X.prog) (w := X.w) (A := X.A.in1) k2 hh D.l2i2 vs.toArray
    refine wpAny_pyNext_zipD2_end (sepK D) d1 d2 hz hTI hTO ⟨g1, pu⟩ ⟨g2, pv⟩ (by simp; omega) (by simp; omega) (by simp; omega) fun h' tk hk => ⟨rfl, I.turnedL (t' := tk) (ch := [z, TI, TO, i1, i2]) (fun c o hb q => ?_) hf⟩
    simp only [List.mem_cons, List.not_mem_nil, or_false, not_or] at hb
    exact hk c o hb.1 hb.2.2.1 hb.2.2.2.1 hb.2.2.2.2 q
  self := fun A i s Q E st h => wpAny_pyIter_zip st.1 h
/-- zip(e, e2): the kinds told -/
def iZipF (k1 k2 : Bool) (K : PySem.W.Frag) (ta : TA) : TI := fun σ H R => ta σ H fun vs H1 => ∃ a b xs ys, vs = [.ref a, .ref b] ∧ SqK k1 K H1 a xs ∧ SqK k2 K H1 b ys ∧ R (ItzF k1 k2 K a b) H1
theorem pi_zipF (k1 k2 : Bool) {X : Cx} {K : PySem.W.Frag} (hK : X.K = K) {e e2 : Expr} {ta : TA} {p pos tpos : Pos} {elts : List Expr} {kk : Nat} (hg : Gl X "zip") (hm : X.mg "zip" = none) (ha : PA X [e, e2] ta)
    (hs : starEach [e, e2] X.env = (false, eval e X.env) :: starEach [e2] X.env := by rfl) (hpl : (backTo pos (starEach [e2] X.env)).any (·.1) = false := by rfl) :
    PI X (.Tuple elts kk tpos) (.Call (.Name "zip" p) [e, e2] [] pos) (iZipF k1 k2 K ta) := by
  subst hK
  refine ⟨fun pins s σ H R I h => Call_ (ld_blt I hg hm PyProof.Rows.boot_zip (PyProof.Rows.callWith_type1 (thn (ha.run pos pins s σ H _ I h) fun us s1 hh => ?_) hs hpl))⟩
  obtain ⟨vs, H1, I1, r1, a, b, xs, ys, rfl, qx, qy, q⟩ := hh
  obtain ⟨u1, u2, rfl, ru, rv⟩ := vals2 r1
  cases (show u1 = Value.ref a from ru)
  cases (show u2 = Value.ref b from rv)
  obtain ⟨us, _, pu, _⟩ := seqK I1 qx
  obtain ⟨ws, _, pw, _⟩ := seqK I1 qy
  refine zip_begins2 (bgK k1 a us.toArray) (bgK k2 b ws.toArray) pu pw fun h' hz hTI hTO o1 o2 hsz hk => wpAny_pyIter_zip hz ?_
  have J : Inv X pins σ H1 { s1 with heap := h' } := I1.kept (t' := s1.toks) hk
  exact ⟨_, [s1.heap.objs.size + 4, s1.heap.objs.size + 2, s1.heap.objs.size + 3, s1.heap.objs.size, s1.heap.objs.size + 1], _, _, H1, rfl, J, turnF (PySem.W.ktu_apart s1.heap.objs.size a b pu.lt pw.lt), ⟨hz, hTI, ⟨_, _, hTO⟩, itK0 o1, itK0 o2⟩, fresh5 I1, q⟩

/-! ### enumerate(list or tuple), its pairs without a dict -/
theorem meets_enumerate_newT (l : Addr) (items : Array Value) (n : Nat) (dct : Option Addr) (sl : Array (Option Value)) :
    Meets (Builtin.«enumerate.__new__» ⟨[.type "enumerate", .ref l], []⟩) (fun _ R s => s.heap.get? l = some { cls := .type "tuple", dict := dct, data := .seq items n, slots := sl } ∧
      R (.ok (.ret (.ref (s.heap.push { cls := .type "tuple_iterator", data := .fields #[.ref l, .int 0 0] }).objs.size)))
        { s with heap := (s.heap.push { cls := .type "tuple_iterator", data := .fields #[.ref l, .int 0 0] }).push { cls := .type "enumerate", data := .fields #[.none, .bool false, .ref s.heap.objs.size, rawInt 0, .none, .none] } }) :=
  .of_wp fun prog w A R s h => by
    obtain ⟨hp, g, d, tk, os⟩ := s; obtain ⟨hl, h⟩ := h
    have hsub := sub_enumerate
    have hL : Heap.IsTuple (Shared.heap ⟨hp, g, d, tk, os⟩) l items := ⟨_, hl, rfl, n, rfl⟩
    wp_walk using AutoSeq1.wpAny_loadPart' hl
    refine wpAny_stack_any fun st => wpAny_pure ?_
    split
    · rename_i c _ _ _ _ _
      cases (c == Value.type "enumerate")
      · wp_walk using AutoSeq1.wpAny_loadPart' hl, wpAny_pyIter_tuple hL
        exact ⟨_, rfl, h⟩
      · wp_walk using AutoSeq1.wpAny_loadPart' hl, wpAny_pyIter_tuple hL
        exact ⟨_, rfl, h⟩
    · wp_walk using AutoSeq1.wpAny_loadPart' hl, wpAny_pyIter_tuple hL
      exact ⟨_, rfl, h⟩
theorem call_enumerate_tup {prog : Program} {w : World} {A : Around} {E : Value → Shared → Prop} {s : Shared} {l : Addr} {items : Array Value} {Q : Value → Shared → Prop} (hL : s.heap.IsTuple l items)
    (h : ∀ h', IsEnum h' (s.heap.objs.size + 1) s.heap.objs.size 0 .none → h'.IsTupleIter s.heap.objs.size l 0 → h'.objs.size = s.heap.objs.size + 2 →
      (∀ b o, s.heap.get? b = some o → h'.get? b = some o) → Q (.ref (s.heap.objs.size + 1)) { s with heap := h' }) :
    wpAny (model prog w) A (call (.type "enumerate") [.ref l]) Q E s := by
  obtain ⟨⟨c, dct, dt, sl⟩, hl, hc, n, hd⟩ := hL
  replace hc : c = .type "tuple" := hc
  replace hd : dt = .seq items n := hd
  subst hc hd
  refine callType_new F.called_enumerate (by decide) (F.typeCall_enumerate_1 _) (F.newCall_enumerate_1 _) (fun obj => F.args_object_init_2 obj _) F.entry_enumerate_new
    (meets_enumerate_newT l items n dct sl) ⟨hl, ?_⟩
  have hz : (s.heap.push { cls := .type "tuple_iterator", data := .fields #[.ref l, .int 0 0] }).objs.size = s.heap.objs.size + 1 := Heap.size_push ..
  show _ ∧ _
  rw [hz]
  have he : IsEnum ((s.heap.push { cls := .type "tuple_iterator", data := .fields #[.ref l, .int 0 0] }).push { cls := .type "enumerate", data := .fields #[.none, .bool false, .ref s.heap.objs.size, rawInt 0, .none, .none] }) (s.heap.objs.size + 1) s.heap.objs.size 0 .none := by
    have := Heap.get?_push_size (s.heap.push { cls := .type "tuple_iterator", data := .fields #[.ref l, .int 0 0] }) (o := { cls := .type "enumerate", data := .fields #[.none, .bool false, .ref s.heap.objs.size, rawInt 0, .none, .none] }) rfl
    rw [hz] at this; exact this
  have hi : ((s.heap.push { cls := .type "tuple_iterator", data := .fields #[.ref l, .int 0 0] }).push { cls := .type "enumerate", data := .fields #[.none, .bool false, .ref s.heap.objs.size, rawInt 0, .none, .none] }).get? s.heap.objs.size = some { cls := .type "tuple_iterator", data := .fields #[.ref l, .int 0 0] } := Heap.get?_push_of_some _ (Heap.get?_push_size _ rfl)
  exact ⟨⟨_, he, rfl⟩, h _ he ⟨_, hi, rfl, rfl⟩ (by rw [Heap.size_push, hz]) fun b o x => Heap.get?_push_of_some _ (Heap.get?_push_of_some _ x)⟩
def IteF (k : Bool) (K : PySem.W.Frag) (a : Addr) : It :=
  ⟨fun i H => ∃ (xs : List V) (x : V), SqK k K H a xs ∧ xs[i]? = some x, fun i H v H' => ∃ T x o, v = .ref T ∧ H T = none ∧ TpO o [.int (i : Nat), x] ∧ H' = upd H T o ∧ ∀ xs, SqK k K H a xs → xs[i]? = some x, fun i H => ∃ xs : List V, SqK k K H a xs ∧ i = xs.length⟩
theorem turn_enumF {P : Program} {w : World} {K : PySem.W.Frag} {elts : List Expr} {kk : Nat} {tpos : Pos} {k : Bool} (a e it : Addr) (hae : a ≠ e) (hai : a ≠ it) :
    Turn P w K (.Tuple elts kk tpos) (IteF k K a) [e, it] e (fun i h => (∃ old, IsEnum h e it ((i : Nat) : Int) old) ∧ ItK k h it a i ∧ e ≠ it) where
  mem := by simp
  obj := fun i h st b hb => by
    obtain ⟨⟨old, he⟩, hi, _⟩ := st
    have e' : b = e ∨ b = it := by simpa using hb
    rcases e' with z | z
    · rw [z]; exact ⟨_, he, fun v q => nomatch q⟩
    · rw [z]; exact hi.obj
  keep := fun i h h' st k => let ⟨⟨old, he⟩, hi, hne⟩ := st; ⟨⟨old, k e (by simp) _ he⟩, hi.at fun o q => k it (by simp) o q, hne⟩
  item := by
    intro X hP hw hK hc i pins s σ H E I hf st hg
    subst hP hw hK
    obtain ⟨⟨old, he⟩, hit, hne⟩ := st
    obtain ⟨xs, x, hq, hx⟩ := hg
    obtain ⟨its, rv, p, hz⟩ := seqK I hq
    obtain ⟨u, hu, ru⟩ := rv.get hx
    have hel : e < s.heap.objs.size := Heap.lt_size he
    have hil : it < s.heap.objs.size := by obtain ⟨_, q, _⟩ := hit.obj; exact Heap.lt_size q
    have hh : X.A.in1.handled = none := I.ok.hd hc
    have lu : i < its.toArray.size := by simpa using (List.getElem?_eq_some_iff.mp hu).1
    have d1 := drK (prog := X.prog) (w := X.w) (A := X.A.in1) k hh hai its.toArray
    refine wpAny_pyNext_enum_itemC d1 he ⟨hit, p⟩ lu hne (by simp [hne, Ne.symm hae]) fun u' h' tk eu ho st' hT hsz hk => ?_
    have eu' : u' = u := by
      have : its.toArray[i]? = some u := by simpa using hu
      rw [this] at eu
      exact (Option.some.inj eu).symm
    subst eu'
    refine ⟨_, rfl, wpAny_letOwnedTupleGo_enum (s := { s with heap := h', toks := tk + 1 }) ho fun h'' he' sb => ?_⟩
    have hT2 : h''.get? s.heap.objs.size = some { cls := .type "tuple", data := .seq #[.int i tk, u'] } := (sb.2 _ (Nat.ne_of_gt hel)).trans hT
    have new : ObjOk X.prog X.w (upd H s.heap.objs.size (.frz { cls := .type "tuple", data := .seq #[.int i tk, u'] } (.tup [.int (i : Nat), x]))) h'' s.heap.objs.size (.frz { cls := .type "tuple", data := .seq #[.int i tk, u'] } (.tup [.int (i : Nat), x])) :=
      ⟨hT2, by show 2 ≤ sizeLine; decide, [.int i tk, u'], .cons ⟨_, rfl⟩ (.cons ru .nil), ⟨_, hT2, rfl, _, rfl⟩⟩
    have I1 : Inv X pins σ (upd H s.heap.objs.size (.frz { cls := .type "tuple", data := .seq #[.int i tk, u'] } (.tup [.int (i : Nat), x]))) { s with heap := h'', toks := tk + 1 } :=
      I.turnedNew (t' := tk + 1) (ch := [e, it]) (fun b ob hb q => (sb.2 b (fun z => hb (by simp [z]))).trans (hk b ob (fun z => hb (by simp [z])) (fun z => hb (by simp [z])) q)) hf (Nat.le_refl _) new
    refine ⟨.ref s.heap.objs.size, _, I1, rfl, ⟨_, x, _, rfl, I.hok.fresh (Nat.le_refl _), ⟨_, rfl, rfl⟩, rfl, fun ys hy => by rw [seqK_inj I hy hq]; exact hx⟩, ⟨⟨u', ?_⟩, st'.1.at fun o q => (sb.2 it (Ne.symm hne)).trans q, hne⟩, fun b hb => ?_⟩
    · have e1 : ((i + 1 : Nat) : Int) = (i : Int) + 1 := by omega
      rw [e1]; exact he'
    · have hb' : b < s.heap.objs.size := by
        have e' : b = e ∨ b = it := by simpa using hb
        rcases e' with z | z
        · rw [z]; exact hel
        · rw [z]; exact hil
      rw [upd_ne (Nat.ne_of_lt hb')]
      exact (hf b hb).1
  done := by
    intro X hP hw hK hc i pins s σ H E I hf st hg
    subst hP hw hK
    obtain ⟨⟨old, he⟩, hit, hne⟩ := st
    obtain ⟨xs, hq, rfl⟩ := hg
    obtain ⟨its, rv, p, hz⟩ := seqK I hq
    have hl := rv.length
    have hh : X.A.in1.handled = none := I.ok.hd hc
    have d1 := drK (prog := X.prog) (w := X.w) (A := X.A.in1) k hh hai its.toArray
    have hs : StK k it a its.toArray its.toArray.size s.heap := by
      rw [List.size_toArray, ← hl]
      exact ⟨hit, p⟩
    refine wpAny_pyNext_enum_endD d1 he hs fun h' eb => ⟨rfl, I.turnedL (t' := s.toks) (ch := [e, it]) (fun b o hb q => eb b o (fun z => hb (by simp [z])) q) hf⟩
  self := fun A i s Q E st h => let ⟨⟨_, he⟩, _⟩ := st; wpAny_pyIter_enum he h
def iEnumF (k : Bool) (K : PySem.W.Frag) (ta : TA) : TI := fun σ H R => ta σ H fun vs H1 => ∃ a xs, vs = [.ref a] ∧ SqK k K H1 a xs ∧ R (IteF k K a) H1
theorem pi_enumF (k : Bool) {X : Cx} {K : PySem.W.Frag} (hK : X.K = K) {e : Expr} {ta : TA} {p pos tpos : Pos} {elts : List Expr} {kk : Nat} (hg : Gl X "enumerate") (hm : X.mg "enumerate" = none) (ha : PA X [e] ta) (hs : starEach [e] X.env = [(false, eval e X.env)] := by rfl) :
    PI X (.Tuple elts kk tpos) (.Call (.Name "enumerate" p) [e] [] pos) (iEnumF k K ta) := by
  subst hK
  refine ⟨fun pins s σ H R I h => ?_⟩
  refine Call_ (ld_blt I hg hm boot_enumerate (PyProof.Rows.callWith_type1 (thn (ha.run pos pins s σ H _ I h) fun us s1 ⟨vs, H1, I1, r1, q1⟩ => ?_) hs rfl))
  obtain ⟨a, xs, ex, hq, q⟩ := q1
  subst ex
  cases r1 with
  | cons r rr =>
    cases rr
    cases r
    obtain ⟨its, rv, p', hz⟩ := seqK I1 hq
    have fin : ∀ h', IsEnum h' (s1.heap.objs.size + 1) s1.heap.objs.size 0 .none → ItK k h' s1.heap.objs.size a 0 → (∀ b o, s1.heap.get? b = some o → h'.get? b = some o) →
        wpAny (model X.prog X.w) X.A (pyIter (.ref (s1.heap.objs.size + 1))) (PIE X pins σ (.Tuple elts kk tpos) R) X.xe { s1 with heap := h' } := fun h' he hit hk => wpAny_pyIter_enum he (by
      have I2 : Inv X pins σ H1 { s1 with heap := h' } := I1.kept (t' := s1.toks) hk
      have la : a < s1.heap.objs.size := p'.lt
      refine ⟨s1.heap.objs.size + 1, [s1.heap.objs.size + 1, s1.heap.objs.size], _, _, H1, rfl, I2, turn_enumF a (s1.heap.objs.size + 1) s1.heap.objs.size (Nat.ne_of_lt (Nat.lt_succ_of_lt la)) (Nat.ne_of_lt la), ⟨⟨.none, he⟩, hit, Nat.succ_ne_self _⟩, fun b hb => ?_, q⟩
      have e' : b = s1.heap.objs.size + 1 ∨ b = s1.heap.objs.size := by simpa using hb
      have hle : s1.heap.objs.size ≤ b := by
        rcases e' with z | z
        · rw [z]; exact Nat.le_add_right _ _
        · rw [z]; exact Nat.le_refl _
      exact I1.fpOk hle (I1.hok.fresh hle))
    cases k with
    | true => exact call_enumerate_tup p' fun h' he hit hsz hk => fin h' he hit hk
    | false => exact call_enumerate_list p' fun h' he hit hsz hk => fin h' he hit hk

/-! ### values as data, apart from the heap -/
inductive Dat where
  | non | bl (b : Bool) | int (i : Int) | str (x : Str) | pool
  | lst (xs : List Dat) | tup (xs : List Dat)
  | obj (k : Nat) (ds : List Dat)
  | dK (kvs : List (Key × Dat))
  | cell (a : Addr)
/-- what stays as it is through a law: the written part, the pool and its copy of the script -/
structure Wd where
  K : PySem.W.Frag
  ca : Nat → Addr
  po : Option (Addr × Addr)
/-- the attributes of the objects of each class, by the class's number -/
def clsN : Nat → List Str
  | 0 => ["p", "q", "bases"]
  | 1 => ["unknowns", "equations"]
  | 2 => ["statement", "choices"]
  | 3 => ["name", "fields"]
  | _ => []
/-- a tuple that stays as it is: it is among the settled objects, or it is written -/
def FzT (_ : Wd) (F : Addr → Prop) (H : Hp) (a : Addr) (vs : List V) : Prop := F a ∧ ∃ o, H a = some o ∧ TpO o vs
theorem FzT.sq {W : Wd} {F : Addr → Prop} {H : Hp} {a : Addr} {vs : List V} (h : FzT W F H a vs) : SqT W.K H a vs := by
  obtain ⟨_, o, e, t⟩ := h
  exact t.sq e
mutual
inductive Rv (W : Wd) (F : Addr → Prop) (H : Hp) : V → Dat → Prop
  | non : Rv W F H .non .non
  | bl (b : Bool) : Rv W F H (.bl b) (.bl b)
  | int (i : Int) : Rv W F H (.int i) (.int i)
  | str (x : Str) : Rv W F H (.str x) (.str x)
  | pool {p c : Addr} : W.po = some (p, c) → Rv W F H (.ref p) .pool
  | lst {a : Addr} {vs : List V} {ds : List Dat} : F a → H a = some (.lst vs) → RvAll W F H vs ds → Rv W F H (.ref a) (.lst ds)
  | tup {a : Addr} {vs : List V} {ds : List Dat} : FzT W F H a vs → RvAll W F H vs ds → Rv W F H (.ref a) (.tup ds)
  | obj {a dx : Addr} {k : Nat} {fs : List (Str × V)} {ds : List Dat} : F a → H a = some (.ins (W.ca k) dx fs) → RvFs W F H fs (clsN k) ds → (∀ m, m ∉ clsN k → fs.lookup m = none) → Rv W F H (.ref a) (.obj k ds)
  | dK {a : Addr} {kvs : List (Key × V)} {kds : List (Key × Dat)} : F a → H a = some (.dK kvs) → RvKv W F H kvs kds → Rv W F H (.ref a) (.dK kds)
  | cell (a : Addr) : Rv W F H (.ref a) (.cell a)
inductive RvAll (W : Wd) (F : Addr → Prop) (H : Hp) : List V → List Dat → Prop
  | nil : RvAll W F H [] []
  | cons {v : V} {vs : List V} {d : Dat} {ds : List Dat} : Rv W F H v d → RvAll W F H vs ds → RvAll W F H (v :: vs) (d :: ds)
inductive RvFs (W : Wd) (F : Addr → Prop) (H : Hp) : List (Str × V) → List Str → List Dat → Prop
  | nil {fs : List (Str × V)} : RvFs W F H fs [] []
  | cons {fs : List (Str × V)} {k : Str} {v : V} {d : Dat} {ks : List Str} {ds : List Dat} : fs.lookup k = some v → Rv W F H v d → RvFs W F H fs ks ds → RvFs W F H fs (k :: ks) (d :: ds)
inductive RvKv (W : Wd) (F : Addr → Prop) (H : Hp) : List (Key × V) → List (Key × Dat) → Prop
  | nil : RvKv W F H [] []
  | cons {k : Key} {v : V} {kvs : List (Key × V)} {d : Dat} {kds : List (Key × Dat)} : Rv W F H v d → RvKv W F H kvs kds → RvKv W F H ((k, v) :: kvs) ((k, d) :: kds)
end
/-- more is settled, what was settled stands as it was -/
def Sub (F : Addr → Prop) (H : Hp) (F' : Addr → Prop) (H' : Hp) : Prop := ∀ a, F a → F' a ∧ H' a = H a
theorem FzT.sub {W : Wd} {F F' : Addr → Prop} {H H' : Hp} {a : Addr} {vs : List V} (s : Sub F H F' H') (h : FzT W F H a vs) : FzT W F' H' a vs := by
  obtain ⟨f, o, e, t⟩ := h
  exact ⟨(s a f).1, o, (s a f).2.trans e, t⟩
section
variable {W : Wd} {F F' : Addr → Prop} {H H' : Hp}
mutual
theorem Rv.sub (s : Sub F H F' H') : ∀ {v : V} {d : Dat}, Rv W F H v d → Rv W F' H' v d
  | _, _, .non => .non
  | _, _, .bl b => .bl b
  | _, _, .int i => .int i
  | _, _, .str x => .str x
  | _, _, .pool h => .pool h
  | _, _, .lst f h r => .lst (s _ f).1 ((s _ f).2.trans h) (RvAll.sub s r)
  | _, _, .tup h r => .tup (h.sub s) (RvAll.sub s r)
  | _, _, .obj f h r n => .obj (s _ f).1 ((s _ f).2.trans h) (RvFs.sub s r) n
  | _, _, .dK f h r => .dK (s _ f).1 ((s _ f).2.trans h) (RvKv.sub s r)
  | _, _, .cell a => .cell a
theorem RvAll.sub (s : Sub F H F' H') : ∀ {vs : List V} {ds : List Dat}, RvAll W F H vs ds → RvAll W F' H' vs ds
  | _, _, .nil => .nil
  | _, _, .cons a r => .cons (Rv.sub s a) (RvAll.sub s r)
theorem RvFs.sub (s : Sub F H F' H') : ∀ {vs : List (Str × V)} {ks : List Str} {ds : List Dat}, RvFs W F H vs ks ds → RvFs W F' H' vs ks ds
  | _, _, _, .nil => .nil
  | _, _, _, .cons e a r => .cons e (Rv.sub s a) (RvFs.sub s r)
theorem RvKv.sub (s : Sub F H F' H') : ∀ {vs : List (Key × V)} {ds : List (Key × Dat)}, RvKv W F H vs ds → RvKv W F' H' vs ds
  | _, _, .nil => .nil
  | _, _, .cons a r => .cons (Rv.sub s a) (RvKv.sub s r)
end
theorem RvAll.length : ∀ {vs : List V} {ds : List Dat}, RvAll W F H vs ds → vs.length = ds.length
  | _, _, .nil => rfl
  | _, _, .cons _ r => congrArg (· + 1) (RvAll.length r)
theorem RvAll.get : ∀ {vs : List V} {ds : List Dat} {i : Nat} {d : Dat}, RvAll W F H vs ds → ds[i]? = some d → ∃ v, vs[i]? = some v ∧ Rv W F H v d
  | _, _, _, _, .nil, e => by simp at e
  | _, _, 0, _, .cons a _, e => by
    simp only [List.getElem?_cons_zero, Option.some.injEq] at e
    subst e
    exact ⟨_, rfl, a⟩
  | _, _, i + 1, _, .cons _ r, e => by
    simp only [List.getElem?_cons_succ] at e
    obtain ⟨v, h1, h2⟩ := RvAll.get (i := i) r e
    exact ⟨v, h1, h2⟩
theorem RvAll.getV : ∀ {vs : List V} {ds : List Dat} {i : Nat} {v : V}, RvAll W F H vs ds → vs[i]? = some v → ∃ d, ds[i]? = some d ∧ Rv W F H v d
  | _, _, _, _, .nil, e => by simp at e
  | _, _, 0, _, .cons a _, e => by
    simp only [List.getElem?_cons_zero, Option.some.injEq] at e
    subst e
    exact ⟨_, rfl, a⟩
  | _, _, i + 1, _, .cons _ r, e => by
    simp only [List.getElem?_cons_succ] at e
    obtain ⟨d, h1, h2⟩ := RvAll.getV (i := i) r e
    exact ⟨d, h1, h2⟩
theorem RvAll.append : ∀ {vs ws : List V} {ds es : List Dat}, RvAll W F H vs ds → RvAll W F H ws es → RvAll W F H (vs ++ ws) (ds ++ es)
  | _, _, _, _, .nil, s => s
  | _, _, _, _, .cons a r, s => .cons a (RvAll.append r s)
theorem RvAll.take : ∀ {vs : List V} {ds : List Dat} (n : Nat), RvAll W F H vs ds → RvAll W F H (vs.take n) (ds.take n)
  | _, _, 0, _ => .nil
  | _, _, _ + 1, .nil => .nil
  | _, _, n + 1, .cons a r => .cons a (RvAll.take n r)
theorem RvAll.drop : ∀ {vs : List V} {ds : List Dat} (n : Nat), RvAll W F H vs ds → RvAll W F H (vs.drop n) (ds.drop n)
  | _, _, 0, r => r
  | _, _, _ + 1, .nil => .nil
  | _, _, n + 1, .cons _ r => RvAll.drop n r
theorem RvAll.set : ∀ {vs : List V} {ds : List Dat} {v : V} {d : Dat} (n : Nat), RvAll W F H vs ds → Rv W F H v d → RvAll W F H (vs.set n v) (ds.set n d)
  | _, _, _, _, _, .nil, _ => .nil
  | _, _, _, _, 0, .cons _ r, q => .cons q r
  | _, _, _, _, n + 1, .cons a r, q => .cons a (RvAll.set n r q)
theorem RvAll.ints : ∀ {vs : List V} {ns : List Int}, RvAll W F H vs (ns.map Dat.int) → vs = ns.map V.int
  | _, [], .nil => rfl
  | _, n :: ns, .cons a r => by
    rw [RvAll.ints r]
    cases a
    rfl
theorem RvAll.strs : ∀ {vs : List V} {ns : List Str}, RvAll W F H vs (ns.map Dat.str) → vs = ns.map V.str
  | _, [], .nil => rfl
  | _, n :: ns, .cons a r => by
    rw [RvAll.strs r]
    cases a
    rfl
theorem RvAll.bls : ∀ {vs : List V} {ns : List Bool}, RvAll W F H vs (ns.map Dat.bl) → vs = ns.map V.bl
  | _, [], .nil => rfl
  | _, n :: ns, .cons a r => by
    rw [RvAll.bls r]
    cases a
    rfl
theorem rv_ints : ∀ ns : List Int, RvAll W F H (ns.map V.int) (ns.map Dat.int)
  | [] => .nil
  | n :: ns => .cons (.int n) (rv_ints ns)
theorem RvFs.get : ∀ {fs : List (Str × V)} {ks : List Str} {ds : List Dat} {i : Nat} {k : Str} {d : Dat}, RvFs W F H fs ks ds → ks[i]? = some k → ds[i]? = some d → ∃ v, fs.lookup k = some v ∧ Rv W F H v d
  | _, _, _, _, _, _, .nil, e, _ => by simp at e
  | _, _, _, 0, _, _, .cons e1 a r, e, e2 => by
    simp only [List.getElem?_cons_zero, Option.some.injEq] at e e2
    subst e
    subst e2
    exact ⟨_, e1, a⟩
  | _, _, _, i + 1, _, _, .cons e1 a r, e, e2 => by
    simp only [List.getElem?_cons_succ] at e e2
    exact RvFs.get (i := i) r e e2
end
/-! ### states -/
structure Okk (W : Wd) (F : Addr → Prop) (H : Hp) : Prop where
  tr : ∀ a, F a → H a ≠ none
  po : ∀ p c, W.po = some (p, c) → PoolAt H p c ∧ ¬ F p ∧ ¬ F c
/-- not the pool -/
def NPo (W : Wd) (a : Addr) : Prop := ∀ p c, W.po = some (p, c) → a ≠ p
structure Ext (W : Wd) (F : Addr → Prop) (H : Hp) (F' : Addr → Prop) (H' : Hp) : Prop where
  up : ∀ a, F a → F' a
  dn : ∀ a, F' a → F a ∨ H a = none
  kp : ∀ a o, H a = some o → NPo W a → H' a = some o
  ok : Okk W F' H'
theorem Okk.np {W : Wd} {F : Addr → Prop} {H : Hp} (k : Okk W F H) {a : Addr} (f : F a) : NPo W a := fun p c e z => by
  subst z
  exact (k.po _ _ e).2.1 f
theorem Ext.sub {W : Wd} {F F' : Addr → Prop} {H H' : Hp} (k : Okk W F H) (x : Ext W F H F' H') : Sub F H F' H' := fun a f => by
  refine ⟨x.up a f, ?_⟩
  cases e : H a with
  | none => exact absurd e (k.tr a f)
  | some o => exact x.kp a o e (k.np f)
theorem Ext.refl {W : Wd} {F : Addr → Prop} {H : Hp} (k : Okk W F H) : Ext W F H F H := ⟨fun _ f => f, fun _ f => .inl f, fun _ _ e _ => e, k⟩
theorem Ext.there {W : Wd} {F F' : Addr → Prop} {H H' : Hp} (k : Okk W F H) (x : Ext W F H F' H') {a : Addr} (h : H' a = none) : H a = none := by
  cases e : H a with
  | none => rfl
  | some o =>
    by_cases z : ∃ p c, W.po = some (p, c) ∧ a = p
    · obtain ⟨p, c, e1, rfl⟩ := z
      obtain ⟨⟨_, _, _, _, _, _, q, _⟩, _⟩ := x.ok.po _ _ e1
      rw [q] at h
      cases h
    · rw [x.kp a o e (fun p c e1 e2 => z ⟨p, c, e1, e2⟩)] at h
      cases h
theorem Ext.trans {W : Wd} {F F' F2 : Addr → Prop} {H H' H2 : Hp} (k : Okk W F H) (x : Ext W F H F' H') (y : Ext W F' H' F2 H2) : Ext W F H F2 H2 :=
  ⟨fun a f => y.up a (x.up a f), fun a f => by
    rcases y.dn a f with z | z
    · exact x.dn a z
    · exact .inr (x.there k z), fun a o e n => y.kp a o (x.kp a o e n) n, y.ok⟩
theorem Okk.pne {W : Wd} {F : Addr → Prop} {H : Hp} (k : Okk W F H) {a : Addr} (n : H a = none) : ∀ p c, W.po = some (p, c) → a ≠ p ∧ a ≠ c := fun p c e => by
  obtain ⟨⟨ns, i, m, s, b, z, h1, h2, _⟩, _⟩ := k.po p c e
  exact ⟨(ne_of_none h1 n).symm, (ne_of_none h2 n).symm⟩
/-- a new object, settled at once -/
theorem Ext.new {W : Wd} {F : Addr → Prop} {H : Hp} (k : Okk W F H) {a : Addr} {o : HO} (n : H a = none) : Ext W F H (fun b => F b ∨ b = a) (upd H a o) := by
  refine ⟨fun _ f => .inl f, fun b f => ?_, fun b u e _ => ?_, ⟨fun b f => ?_, fun p c e => ?_⟩⟩
  · rcases f with f | rfl
    · exact .inl f
    · exact .inr n
  · rw [upd_ne (ne_of_none e n)]
    exact e
  · by_cases h : b = a
    · subst h
      rw [upd_same]
      exact fun z => (by cases z)
    · rw [upd_ne h]
      rcases f with f | f
      · exact k.tr b f
      · exact absurd f h
  · obtain ⟨h1, h2, h3⟩ := k.po p c e
    have ne := k.pne n p c e
    refine ⟨h1.mut ne.1 ne.2, fun f => ?_, fun f => ?_⟩
    · rcases f with f | f
      · exact h2 f
      · exact ne.1 f.symm
    · rcases f with f | f
      · exact h3 f
      · exact ne.2 f.symm
/-- a new object that is not settled yet -/
theorem Ext.lay {W : Wd} {F : Addr → Prop} {H : Hp} (k : Okk W F H) {a : Addr} {o : HO} (n : H a = none) : Ext W F H F (upd H a o) := by
  refine ⟨fun _ f => f, fun b f => .inl f, fun b u e _ => ?_, ⟨fun b f => ?_, fun p c e => ?_⟩⟩
  · rw [upd_ne (ne_of_none e n)]
    exact e
  · have h : b ≠ a := fun z => k.tr b f (by rw [z]; exact n)
    rw [upd_ne h]
    exact k.tr b f
  · obtain ⟨h1, h2, h3⟩ := k.po p c e
    have ne := k.pne n p c e
    exact ⟨h1.mut ne.1 ne.2, h2, h3⟩
/-- what a slot of a frame holds: nothing that is asked, data, a list of the def's own that it still changes -/
inductive Sl where
  | u
  | d (x : Dat)
  | o (xs : List Dat)
def SlOk (W : Wd) (H0 : Hp) (F : Addr → Prop) (H : Hp) (ov : Option V) : Sl → Prop
  | .u => True
  | .d x => ∃ v, ov = some v ∧ Rv W F H v x
  | .o xs => ∃ a vs, ov = some (.ref a) ∧ ¬ F a ∧ H0 a = none ∧ H a = some (.lst vs) ∧ RvAll W F H vs xs ∧ ∀ p c, W.po = some (p, c) → a ≠ p ∧ a ≠ c
structure Mt (W : Wd) (H0 : Hp) (F : Addr → Prop) (H : Hp) (σ : L2.St) (env : List Sl) : Prop where
  ln : env.length = σ.length
  at_ : ∀ (i : Nat) (s : Sl), env[i]? = some s → ∃ ov, σ[i]? = some ov ∧ SlOk W H0 F H ov s
  own : ∀ (i j : Nat) (xs ys : List Dat) (a : Addr), env[i]? = some (.o xs) → env[j]? = some (.o ys) → σ[i]? = some (some (.ref a)) → σ[j]? = some (some (.ref a)) → i = j
theorem SlOk.ext {W : Wd} {H0 : Hp} {F F' : Addr → Prop} {H H' : Hp} {ov : Option V} (k : Okk W F H) (x : Ext W F H F' H') : ∀ {s : Sl}, SlOk W H0 F H ov s → SlOk W H0 F' H' ov s
  | .u, _ => trivial
  | .d _, ⟨v, e, r⟩ => ⟨v, e, r.sub (x.sub k)⟩
  | .o _, ⟨a, vs, e, nf, n0, h, r, np⟩ => by
    refine ⟨a, vs, e, fun f => ?_, n0, x.kp a _ h (fun p c e z => (np p c e).1 z), r.sub (x.sub k), np⟩
    rcases x.dn a f with z | z
    · exact nf z
    · rw [z] at h
      cases h
theorem Mt.ext {W : Wd} {H0 : Hp} {F F' : Addr → Prop} {H H' : Hp} {σ : L2.St} {env : List Sl} (k : Okk W F H) (x : Ext W F H F' H') (m : Mt W H0 F H σ env) : Mt W H0 F' H' σ env :=
  ⟨m.ln, fun i s e => by
    obtain ⟨ov, e1, r⟩ := m.at_ i s e
    exact ⟨ov, e1, r.ext k x⟩, m.own⟩
theorem Mt.setD {W : Wd} {H0 : Hp} {F : Addr → Prop} {H : Hp} {σ : L2.St} {env : List Sl} (m : Mt W H0 F H σ env) (i : Nat) {v : V} {d : Dat} (r : Rv W F H v d) : Mt W H0 F H (σ.set i (some v)) (env.set i (.d d)) := by
  refine ⟨by rw [List.length_set, List.length_set, m.ln], fun j s e => ?_, fun j k xs ys a e1 e2 e3 e4 => ?_⟩
  · by_cases h : j = i
    · subst h
      have hl : j < env.length := by
        have := (List.getElem?_eq_some_iff.mp e).1
        rwa [List.length_set] at this
      rw [List.getElem?_set_self hl] at e
      cases e
      exact ⟨some v, List.getElem?_set_self (by rw [← m.ln]; exact hl), v, rfl, r⟩
    · rw [List.getElem?_set_ne (Ne.symm h)] at e ⊢
      exact m.at_ j s e
  · have n1 : j ≠ i := fun z => by
      subst z
      have hl : j < env.length := by
        have := (List.getElem?_eq_some_iff.mp e1).1
        rwa [List.length_set] at this
      rw [List.getElem?_set_self hl] at e1
      cases e1
    have n2 : k ≠ i := fun z => by
      subst z
      have hl : k < env.length := by
        have := (List.getElem?_eq_some_iff.mp e2).1
        rwa [List.length_set] at this
      rw [List.getElem?_set_self hl] at e2
      cases e2
    rw [List.getElem?_set_ne (Ne.symm n1)] at e1 e3
    rw [List.getElem?_set_ne (Ne.symm n2)] at e2 e4
    exact m.own j k xs ys a e1 e2 e3 e4

/-! ### readings over data -/
abbrev AEx := List Sl → (Dat → Prop) → Prop
abbrev AFr := List Sl → (List Dat → Prop) → Prop
abbrev ATs := List Sl → (Bool → Prop) → Prop
abbrev Rel := Wd → (Addr → Prop) → Hp → V → Dat → Prop
/-- a value that is read, not kept: data, or a list that the def still changes -/
inductive Pk (W : Wd) (F : Addr → Prop) (H : Hp) : V → Dat → Prop
  | rv {v : V} {d : Dat} : Rv W F H v d → Pk W F H v d
  | own {a : Addr} {vs : List V} {ds : List Dat} : H a = some (.lst vs) → NPo W a → RvAll W F H vs ds → Pk W F H (.ref a) (.lst ds)
structure Pst (R : Rel) : Prop where
  run : ∀ {W : Wd} {F F' : Addr → Prop} {H H' : Hp} {v : V} {d : Dat}, Okk W F H → Ext W F H F' H' → R W F H v d → R W F' H' v d
theorem pst_rv : Pst Rv := ⟨fun k x r => r.sub (x.sub k)⟩
theorem pst_pk : Pst Pk := ⟨fun k x r => by
  cases r with
  | rv r => exact .rv (r.sub (x.sub k))
  | own h n r => exact .own (x.kp _ _ h n) n (r.sub (x.sub k))⟩
theorem Pk.lst {W : Wd} {F : Addr → Prop} {H : Hp} {v : V} {ds : List Dat} (k : Okk W F H) (h : Pk W F H v (.lst ds)) : ∃ a vs, v = .ref a ∧ H a = some (.lst vs) ∧ NPo W a ∧ RvAll W F H vs ds := by
  cases h with
  | rv r =>
    cases r with
    | lst f h r => exact ⟨_, _, rfl, h, k.np f, r⟩
  | own h n r => exact ⟨_, _, rfl, h, n, r⟩
structure AEg (R : Rel) (W : Wd) (H0 : Hp) (te : TE) (ae : AEx) : Prop where
  run : ∀ (σ : L2.St) (env : List Sl) (F : Addr → Prop) (H : Hp) (Q : VK) (P : Dat → Prop), Okk W F H → Mt W H0 F H σ env → ae env P → (∀ d F' H' v, P d → Ext W F H F' H' → R W F' H' v d → Q v H') → te σ H Q
abbrev AExp : Wd → Hp → TE → AEx → Prop := AEg Rv
/-- a list that is made anew -/
structure AFrs (W : Wd) (H0 : Hp) (te : TE) (ae : AFr) : Prop where
  run : ∀ (σ : L2.St) (env : List Sl) (F : Addr → Prop) (H : Hp) (Q : VK) (P : List Dat → Prop), Okk W F H → Mt W H0 F H σ env → ae env P →
    (∀ ds F' H' a vs, P ds → Ext W F H F' H' → H a = none → ¬ F' a → H' a = some (.lst vs) → RvAll W F' H' vs ds → Q (.ref a) H') → te σ H Q
structure ATst (W : Wd) (H0 : Hp) (tt : TT) (at_ : ATs) : Prop where
  run : ∀ (σ : L2.St) (env : List Sl) (F : Addr → Prop) (H : Hp) (Q : Bool → Hp → Prop) (P : Bool → Prop), Okk W F H → Mt W H0 F H σ env → at_ env P → (∀ b F' H', P b → Ext W F H F' H' → Q b H') → tt σ H Q
/-- arguments, n of them -/
structure AArg (W : Wd) (H0 : Hp) (n : Nat) (ta : TA) (aa : AFr) : Prop where
  run : ∀ (σ : L2.St) (env : List Sl) (F : Addr → Prop) (H : Hp) (Q : List V → Hp → Prop) (P : List Dat → Prop), Okk W F H → Mt W H0 F H σ env → aa env P →
    (∀ ds F' H' vs, P ds → Ext W F H F' H' → RvAll W F' H' vs ds → ds.length = n → Q vs H') → ta σ H Q
/-! ### names, constants -/
def dAt : List Sl → Nat → Sl
  | [], _ => .u
  | s :: _, 0 => s
  | _ :: r, i + 1 => dAt r i
theorem dAt_get : ∀ {env : List Sl} {i : Nat} {s : Sl}, dAt env i = s → s ≠ .u → env[i]? = some s
  | [], _, _, e, n => absurd e.symm n
  | s :: _, 0, _, e, _ => congrArg some e
  | _ :: r, i + 1, s, e, n => by
    rw [List.getElem?_cons_succ]
    exact dAt_get (env := r) e n
def dQ : Sl → (Dat → Prop) → Prop
  | .d x, P => P x
  | _, _ => False
def dQ2 : Sl → (Dat → Prop) → Prop
  | .d x, P => P x
  | .o xs, P => P (.lst xs)
  | _, _ => False
def aVar (i : Nat) : AEx := fun env P => dQ (dAt env i) P
def aPeek (i : Nat) : AEx := fun env P => dQ2 (dAt env i) P
def aC (d : Dat) : AEx := fun _ P => P d
section
variable {W : Wd} {H0 : Hp} {te ta tb : TE} {ae ea eb : AEx}
theorem a_var {i : Nat} : AExp W H0 (tVar i) (aVar i) := ⟨fun σ env F H Q P ok m h k => by
  unfold aVar at h
  cases e : dAt env i with
  | d x =>
    rw [e] at h
    obtain ⟨_, e1, v, rfl, r⟩ := m.at_ i _ (dAt_get e (fun z => by cases z))
    exact ⟨v, e1, k x F H v h (.refl ok) r⟩
  | u =>
    rw [e] at h
    exact h.elim
  | o xs =>
    rw [e] at h
    exact h.elim⟩
theorem a_peek {i : Nat} : AEg Pk W H0 (tVar i) (aPeek i) := ⟨fun σ env F H Q P ok m h k => by
  unfold aPeek at h
  cases e : dAt env i with
  | d x =>
    rw [e] at h
    obtain ⟨_, e1, v, rfl, r⟩ := m.at_ i _ (dAt_get e (fun z => by cases z))
    exact ⟨v, e1, k x F H v h (.refl ok) (.rv r)⟩
  | u =>
    rw [e] at h
    exact h.elim
  | o xs =>
    rw [e] at h
    obtain ⟨_, e1, a, vs, rfl, nf, n0, ha, r, np⟩ := m.at_ i _ (dAt_get e (fun z => by cases z))
    exact ⟨_, e1, k _ F H _ h (.refl ok) (.own ha (fun p c e => (np p c e).1) r)⟩⟩
theorem a_pk (h : AExp W H0 te ae) : AEg Pk W H0 te ae := ⟨fun σ env F H Q P ok m q k => h.run σ env F H Q P ok m q fun d F' H' v p x r => k d F' H' v p x (.rv r)⟩
theorem a_int {i : Int} : AExp W H0 (tC (.int i)) (aC (.int i)) := ⟨fun _ _ F H _ _ ok _ h k => k _ F H _ h (.refl ok) (.int i)⟩
theorem a_bl {b : Bool} : AExp W H0 (tC (.bl b)) (aC (.bl b)) := ⟨fun _ _ F H _ _ ok _ h k => k _ F H _ h (.refl ok) (.bl b)⟩
theorem a_str {x : Str} : AExp W H0 (tC (.str x)) (aC (.str x)) := ⟨fun _ _ F H _ _ ok _ h k => k _ F H _ h (.refl ok) (.str x)⟩
theorem a_non : AExp W H0 (tC .non) (aC .non) := ⟨fun _ _ F H _ _ ok _ h k => k _ F H _ h (.refl ok) .non⟩
/-- a new list, settled at once -/
def aFz (ae : AFr) : AEx := fun env P => ae env fun ds => P (.lst ds)
theorem Ext.fz {F F' : Addr → Prop} {H H' : Hp} {a : Addr} {o : HO} (ok : Okk W F H) (x : Ext W F H F' H') (n : H a = none) (h : H' a = some o) : Ext W F H (fun b => F' b ∨ b = a) H' := by
  have tr : ∀ b, (F' b ∨ b = a) → H' b ≠ none := fun b f => by
    rcases f with f | rfl
    · exact x.ok.tr b f
    · rw [h]
      exact fun z => by cases z
  have po : ∀ p c, W.po = some (p, c) → PoolAt H' p c ∧ ¬ (F' p ∨ p = a) ∧ ¬ (F' c ∨ c = a) := fun p c e => by
    obtain ⟨h1, h2, h3⟩ := x.ok.po p c e
    have ne := ok.pne n p c e
    refine ⟨h1, fun f => ?_, fun f => ?_⟩
    · rcases f with f | f
      · exact h2 f
      · exact ne.1 f.symm
    · rcases f with f | f
      · exact h3 f
      · exact ne.2 f.symm
  refine ⟨fun b f => .inl (x.up b f), fun b f => ?_, x.kp, ⟨tr, po⟩⟩
  rcases f with f | rfl
  · exact x.dn b f
  · exact .inr n
theorem sub_fz {F' : Addr → Prop} {H' : Hp} (a : Addr) : Sub F' H' (fun b => F' b ∨ b = a) H' := fun _ f => ⟨.inl f, rfl⟩
theorem a_fz {af : AFr} (h : AFrs W H0 te af) : AExp W H0 te (aFz af) := ⟨fun σ env F H Q P ok m q k => h.run σ env F H Q (fun ds => P (.lst ds)) ok m q fun ds F' H' a vs p x n nf ha r =>
  k (.lst ds) (fun b => F' b ∨ b = a) H' (.ref a) p (x.fz ok n ha) (.lst (.inr rfl) ha (r.sub (sub_fz a)))⟩
/-! ### two values -/
def a2 (f : Dat → Dat → (Dat → Prop) → Prop) (ea eb : AEx) : AEx := fun env P => ea env fun x => eb env fun y => f x y P
/-- an operation on values reads as f on data -/
def ROk (W : Wd) (S1 S2 S3 : Rel) (r : L2.R2) (f : Dat → Dat → (Dat → Prop) → Prop) : Prop :=
  ∀ (F : Addr → Prop) (H : Hp) (x y : V) (d e : Dat) (Q : VK) (P : Dat → Prop), Okk W F H → S1 W F H x d → S2 W F H y e → f d e P → (∀ z F' H' v, P z → Ext W F H F' H' → S3 W F' H' v z → Q v H') → r x y H Q
theorem a_op {S1 S2 S3 : Rel} {r : L2.R2} {f : Dat → Dat → (Dat → Prop) → Prop} (pr : Pst S1) (hr : ROk W S1 S2 S3 r f) (ha : AEg S1 W H0 ta ea) (hb : AEg S2 W H0 tb eb) : AEg S3 W H0 (tOp r ta tb) (a2 f ea eb) :=
  ⟨fun σ env F H Q P ok m q k => ha.run σ env F H _ _ ok m q fun d F1 H1 v p1 x1 r1 => hb.run σ env F1 H1 _ _ x1.ok (m.ext ok x1) p1 fun e F2 H2 u p2 x2 r2 =>
    hr F2 H2 v u d e Q P x2.ok (pr.run x1.ok x2 r1) r2 p2 fun z F3 H3 w p3 x3 r3 => k z F3 H3 w p3 ((x1.trans ok x2).trans ok x3) r3⟩
def kI (C : Int → Int → Prop) (g : Int → Int → Dat) : Dat → Dat → (Dat → Prop) → Prop
  | .int i, .int j, P => C i j ∧ P (g i j)
  | _, _, _ => False
def kI0 (g : Int → Int → Dat) : Dat → Dat → (Dat → Prop) → Prop
  | .int i, .int j, P => P (g i j)
  | _, _, _ => False
theorem rok_I {C : Int → Int → Prop} {g : Int → Int → Int} : ROk W Rv Rv Rv (rI C fun i j => .int (g i j)) (kI C fun i j => .int (g i j)) := fun F H x y d e Q P ok r1 r2 q k => by
  cases r1 <;> cases r2 <;> first | exact q.elim | exact ⟨_, _, rfl, rfl, q.1, k _ F H _ q.2 (.refl ok) (.int _)⟩
theorem rok_I0 {g : Int → Int → Int} : ROk W Rv Rv Rv (rI0 fun i j => .int (g i j)) (kI0 fun i j => .int (g i j)) := fun F H x y d e Q P ok r1 r2 q k => by
  cases r1 <;> cases r2 <;> first | exact q.elim | exact ⟨_, _, rfl, rfl, k _ F H _ q (.refl ok) (.int _)⟩
theorem rok_B0 {g : Int → Int → Bool} : ROk W Rv Rv Rv (rI0 fun i j => .bl (g i j)) (kI0 fun i j => .bl (g i j)) := fun F H x y d e Q P ok r1 r2 q k => by
  cases r1 <;> cases r2 <;> first | exact q.elim | exact ⟨_, _, rfl, rfl, k _ F H _ q (.refl ok) (.bl _)⟩
/-- == of two ints, texts, bools or None -/
def kEq (n : Bool) : Dat → Dat → (Dat → Prop) → Prop
  | .int i, .int j, P => P (.bl (if n then !decide (i = j) else decide (i = j)))
  | .str i, .str j, P => P (.bl (if n then !decide (i = j) else decide (i = j)))
  | .bl i, .bl j, P => P (.bl (if n then !decide (i = j) else decide (i = j)))
  | .non, .non, P => P (.bl (!n))
  | .non, .int _, P => P (.bl n)
  | .non, .bl _, P => P (.bl n)
  | .non, .str _, P => P (.bl n)
  | .int _, .non, P => P (.bl n)
  | .bl _, .non, P => P (.bl n)
  | .str _, .non, P => P (.bl n)
  | .int _, .str _, P => P (.bl n)
  | .str _, .int _, P => P (.bl n)
  | .bl _, .str _, P => P (.bl n)
  | .str _, .bl _, P => P (.bl n)
  | _, _, _ => False
theorem dec_i {i j : Int} : decide (V.int i = V.int j) = decide (i = j) := by
  by_cases h : i = j
  · subst h; simp
  · rw [decide_eq_false h, decide_eq_false (fun z => h (V.int.inj z))]
theorem dec_s {i j : Str} : decide (V.str i = V.str j) = decide (i = j) := by
  by_cases h : i = j
  · subst h; simp
  · rw [decide_eq_false h, decide_eq_false (fun z => h (V.str.inj z))]
theorem dec_b {i j : Bool} : decide (V.bl i = V.bl j) = decide (i = j) := by
  cases i <;> cases j <;> rfl
theorem rok_eq : ROk W Rv Rv Rv rEq (kEq false) := fun F H x y d e Q P ok r1 r2 q k => by
  cases r1 <;> cases r2 <;> first
    | exact q.elim
    | exact ⟨rfl, by rw [dec_i]; exact k _ F H _ q (.refl ok) (.bl _)⟩
    | exact ⟨rfl, by rw [dec_s]; exact k _ F H _ q (.refl ok) (.bl _)⟩
    | exact ⟨rfl, by rw [dec_b]; exact k _ F H _ q (.refl ok) (.bl _)⟩
    | exact ⟨rfl, k _ F H _ q (.refl ok) (.bl _)⟩
theorem rok_ne : ROk W Rv Rv Rv rNe (kEq true) := fun F H x y d e Q P ok r1 r2 q k => by
  cases r1 <;> cases r2 <;> first
    | exact q.elim
    | exact ⟨rfl, by rw [dec_i]; exact k _ F H _ q (.refl ok) (.bl _)⟩
    | exact ⟨rfl, by rw [dec_s]; exact k _ F H _ q (.refl ok) (.bl _)⟩
    | exact ⟨rfl, by rw [dec_b]; exact k _ F H _ q (.refl ok) (.bl _)⟩
    | exact ⟨rfl, k _ F H _ q (.refl ok) (.bl _)⟩
/-- x[i] -/
def oQ {α : Type} : Option α → (α → Prop) → Prop
  | some x, P => P x
  | none, _ => False
def kIx : Dat → Dat → (Dat → Prop) → Prop
  | .lst xs, .int i, P => oQ (atI xs i) P
  | .tup xs, .int i, P => oQ (atI xs i) P
  | _, _, _ => False
theorem RvAll.atI {F : Addr → Prop} {H : Hp} {vs : List V} {ds : List Dat} {i : Int} {d : Dat} (r : RvAll W F H vs ds) (e : L2.atI ds i = some d) : ∃ v, L2.atI vs i = some v ∧ Rv W F H v d := by
  unfold L2.atI at e ⊢
  rw [r.length]
  cases h : ixN ds.length i with
  | none =>
    rw [h] at e
    cases e
  | some j =>
    rw [h] at e
    exact r.get e
theorem rok_ixl : ROk W Pk Rv Rv (rIxL W.K) (fun x y P => match x with | .lst _ => kIx x y P | _ => False) := fun F H x y d e Q P ok r1 r2 q k => by
  cases d with
  | lst xs =>
    obtain ⟨a, vs, rfl, ha, np, r⟩ := r1.lst ok
    cases r2 with
    | int i =>
      have q : oQ (atI xs i) P := q
      cases h : atI xs i with
      | none =>
        rw [h] at q
        exact q.elim
      | some z =>
        rw [h] at q
        obtain ⟨v, e1, rv⟩ := r.atI h
        exact ⟨a, vs, i, v, rfl, rfl, SqL.of ha, e1, k z F H v q (.refl ok) rv⟩
    | _ => exact q.elim
  | _ => exact q.elim
theorem rok_ixt : ROk W Pk Rv Rv (rIxT W.K) (fun x y P => match x with | .tup _ => kIx x y P | _ => False) := fun F H x y d e Q P ok r1 r2 q k => by
  cases d with
  | tup xs =>
    cases r1 with
    | rv r1 =>
      cases r1 with
      | tup ha r =>
        cases r2 with
        | int i =>
          have q : oQ (atI xs i) P := q
          cases h : atI xs i with
          | none =>
            rw [h] at q
            exact q.elim
          | some z =>
            rw [h] at q
            obtain ⟨v, e1, rv⟩ := r.atI h
            exact ⟨_, _, i, v, rfl, rfl, ha.sq, e1, k z F H v q (.refl ok) rv⟩
        | _ => exact q.elim
  | _ => exact q.elim
theorem rok_ix : ROk W Pk Rv Rv (rIx W.K) kIx := fun F H x y d e Q P ok r1 r2 q k => by
  cases d with
  | lst xs => exact .inl (rok_ixl F H x y _ e Q P ok r1 r2 q k)
  | tup xs => exact .inr (.inl (rok_ixt F H x y _ e Q P ok r1 r2 q k))
  | _ => exact q.elim
end

/-! ### more expressions over data -/
section
variable {W : Wd} {H0 : Hp} {te ta tb tc : TE} {ae ea eb ec : AEx} {t u : TT} {at_ au : ATs}
/-! arguments -/
def aNil : AFr := fun _ P => P []
def aCons (ea : AEx) (er : AFr) : AFr := fun env P => ea env fun x => er env fun xs => P (x :: xs)
theorem a_nil : AArg W H0 0 tNil aNil := ⟨fun _ _ F H _ _ ok _ h k => k [] F H [] h (.refl ok) .nil rfl⟩
theorem a_cons {n : Nat} {tr : TA} {er : AFr} (ha : AExp W H0 ta ea) (hr : AArg W H0 n tr er) : AArg W H0 (n + 1) (tCons ta tr) (aCons ea er) :=
  ⟨fun σ env F H Q P ok m q k => ha.run σ env F H _ _ ok m q fun d F1 H1 v p1 x1 r1 => hr.run σ env F1 H1 _ _ x1.ok (m.ext ok x1) p1 fun ds F2 H2 vs p2 x2 r2 l2 =>
    k (d :: ds) F2 H2 (v :: vs) p2 (x1.trans ok x2) (.cons (r1.sub (x2.sub x1.ok)) r2) (congrArg (· + 1) l2)⟩
/-! displays -/
def aTup (aa : AFr) : AEx := fun env P => aa env fun ds => P (.tup ds)
theorem a_tup {n : Nat} {tr : TA} {aa : AFr} (h : AArg W H0 n tr aa) (hn : n ≤ 100000 := by decide) : AExp W H0 (tTupF tr) (aTup aa) :=
  ⟨fun σ env F H Q P ok m q k => h.run σ env F H _ _ ok m q fun ds F1 H1 vs p1 x1 r1 l1 => ⟨Nat.le_of_lt (len_size (by rw [r1.length]; omega)), fun a o n tp => by
    have x2 : Ext W F1 H1 _ _ := Ext.new (o := o) x1.ok n
    exact k (.tup ds) _ _ _ p1 (x1.trans ok x2) (.tup ⟨.inr rfl, o, upd_same, tp⟩ (r1.sub (x2.sub x1.ok)))⟩⟩
theorem a_lst {n : Nat} {tr : TA} {aa : AFr} (h : AArg W H0 n tr aa) (hn : n ≤ 100000 := by decide) : AFrs W H0 (tLst tr) aa :=
  ⟨fun σ env F H Q P ok m q k => h.run σ env F H _ _ ok m q fun ds F1 H1 vs p1 x1 r1 l1 => ⟨Nat.le_of_lt (len_size (by rw [r1.length]; omega)), fun a n => by
    have x2 : Ext W F1 H1 _ _ := Ext.lay (o := .lst vs) x1.ok n
    exact k ds _ _ a vs p1 (x1.trans ok x2) (x1.there ok n) (fun f => x1.ok.tr a f n) upd_same (r1.sub (x2.sub x1.ok))⟩⟩
/-! tests -/
def aTest (ea : AEx) : ATs := fun env P => ea env fun x => match x with | .bl b => P b | _ => False
theorem a_test (h : AExp W H0 ta ea) : ATst W H0 (tTest ta) (aTest ea) := ⟨fun σ env F H Q P ok m q k => h.run σ env F H _ _ ok m q fun d F1 H1 v p1 x1 r1 => by
  cases r1 <;> first | exact p1.elim | exact ⟨_, rfl, k _ F1 H1 p1 x1⟩⟩
theorem a_tb (h : AExp W H0 ta ea) : ATst W H0 (tB ta) (aTest ea) := ⟨fun σ env F H Q P ok m q k => h.run σ env F H _ _ ok m q fun d F1 H1 v p1 x1 r1 => by
  cases r1 <;> first | exact p1.elim | exact ⟨_, rfl, k _ F1 H1 p1 x1⟩⟩
def aNot (a : ATs) : ATs := fun env P => a env fun b => P (!b)
theorem a_not (h : ATst W H0 t at_) : ATst W H0 (tNot t) (aNot at_) := ⟨fun σ env F H Q P ok m q k => h.run σ env F H _ _ ok m q fun b F1 H1 p1 x1 => k _ F1 H1 p1 x1⟩
/-- two ways by a bool: kept together, so that it can be told first -/
def two (b : Bool) (p q : Prop) : Prop := match b with
  | true => p
  | false => q
def aAnd (a c : ATs) : ATs := fun env P => a env fun b => two b (c env P) (P false)
def aOr (a c : ATs) : ATs := fun env P => a env fun b => two b (P true) (c env P)
theorem a_and (h : ATst W H0 t at_) (h2 : ATst W H0 u au) : ATst W H0 (tAnd t u) (aAnd at_ au) := ⟨fun σ env F H Q P ok m q k => h.run σ env F H _ _ ok m q fun b F1 H1 p1 x1 => by
  cases b with
  | true =>
    rw [if_pos rfl]
    exact h2.run σ env F1 H1 _ _ x1.ok (m.ext ok x1) p1 fun b F2 H2 p2 x2 => k b F2 H2 p2 (x1.trans ok x2)
  | false =>
    rw [if_neg Bool.false_ne_true]
    exact k false F1 H1 p1 x1⟩
theorem a_or (h : ATst W H0 t at_) (h2 : ATst W H0 u au) : ATst W H0 (tOr t u) (aOr at_ au) := ⟨fun σ env F H Q P ok m q k => h.run σ env F H _ _ ok m q fun b F1 H1 p1 x1 => by
  cases b with
  | true =>
    rw [if_pos rfl]
    exact k true F1 H1 p1 x1
  | false =>
    rw [if_neg Bool.false_ne_true]
    exact h2.run σ env F1 H1 _ _ x1.ok (m.ext ok x1) p1 fun b F2 H2 p2 x2 => k b F2 H2 p2 (x1.trans ok x2)⟩
/-! values of bools -/
def bQ : Dat → (Bool → Prop) → Prop
  | .bl b, P => P b
  | _, _ => False
def aAndV (ea eb : AEx) : AEx := fun env P => ea env fun x => bQ x fun b => two b (eb env P) (P (.bl false))
def aOrV (ea eb : AEx) : AEx := fun env P => ea env fun x => bQ x fun b => two b (P (.bl true)) (eb env P)
def aNotV (ea : AEx) : AEx := fun env P => ea env fun x => bQ x fun b => P (.bl (!b))
theorem a_andV (ha : AExp W H0 ta ea) (hb : AExp W H0 tb eb) : AExp W H0 (tAndV ta tb) (aAndV ea eb) := ⟨fun σ env F H Q P ok m q k => ha.run σ env F H _ _ ok m q fun d F1 H1 v p1 x1 r1 => by
  cases r1 with
  | bl b =>
    refine ⟨b, rfl, ?_⟩
    cases b with
    | true =>
      rw [if_pos rfl]
      exact hb.run σ env F1 H1 _ _ x1.ok (m.ext ok x1) p1 fun e F2 H2 w p2 x2 r2 => k e F2 H2 w p2 (x1.trans ok x2) r2
    | false =>
      rw [if_neg Bool.false_ne_true]
      exact k _ F1 H1 _ p1 x1 (.bl false)
  | _ => exact p1.elim⟩
theorem a_orV (ha : AExp W H0 ta ea) (hb : AExp W H0 tb eb) : AExp W H0 (tOrV ta tb) (aOrV ea eb) := ⟨fun σ env F H Q P ok m q k => ha.run σ env F H _ _ ok m q fun d F1 H1 v p1 x1 r1 => by
  cases r1 with
  | bl b =>
    refine ⟨b, rfl, ?_⟩
    cases b with
    | true =>
      rw [if_pos rfl]
      exact k _ F1 H1 _ p1 x1 (.bl true)
    | false =>
      rw [if_neg Bool.false_ne_true]
      exact hb.run σ env F1 H1 _ _ x1.ok (m.ext ok x1) p1 fun e F2 H2 w p2 x2 r2 => k e F2 H2 w p2 (x1.trans ok x2) r2
  | _ => exact p1.elim⟩
theorem a_notV (ha : AExp W H0 ta ea) : AExp W H0 (tNotV ta) (aNotV ea) := ⟨fun σ env F H Q P ok m q k => ha.run σ env F H _ _ ok m q fun d F1 H1 v p1 x1 r1 => by
  cases r1 with
  | bl b => exact ⟨b, rfl, k _ F1 H1 _ p1 x1 (.bl _)⟩
  | _ => exact p1.elim⟩
def aIf (c : ATs) (ea eb : AEx) : AEx := fun env P => c env fun b => two b (ea env P) (eb env P)
theorem a_if (h : ATst W H0 t at_) (ha : AExp W H0 ta ea) (hb : AExp W H0 tb eb) : AExp W H0 (tIf t ta tb) (aIf at_ ea eb) := ⟨fun σ env F H Q P ok m q k => h.run σ env F H _ _ ok m q fun b F1 H1 p1 x1 => by
  cases b with
  | true =>
    rw [if_pos rfl]
    exact ha.run σ env F1 H1 _ _ x1.ok (m.ext ok x1) p1 fun e F2 H2 w p2 x2 r2 => k e F2 H2 w p2 (x1.trans ok x2) r2
  | false =>
    rw [if_neg Bool.false_ne_true]
    exact hb.run σ env F1 H1 _ _ x1.ok (m.ext ok x1) p1 fun e F2 H2 w p2 x2 r2 => k e F2 H2 w p2 (x1.trans ok x2) r2⟩
/-- a < b < c -/
def aChain (f g : Dat → Dat → (Dat → Prop) → Prop) (ea eb ec : AEx) : AEx := fun env P => ea env fun x => eb env fun y => f x y fun z => bQ z fun b => two b (ec env fun w => g y w P) (P (.bl false))
theorem a_chain {r r' : L2.R2} {f g : Dat → Dat → (Dat → Prop) → Prop} (hr : ROk W Rv Rv Rv r f) (hr' : ROk W Rv Rv Rv r' g) (ha : AExp W H0 ta ea) (hb : AExp W H0 tb eb) (hc : AExp W H0 tc ec) : AExp W H0 (tChain r r' ta tb tc) (aChain f g ea eb ec) :=
  ⟨fun σ env F H Q P ok m q k => ha.run σ env F H _ _ ok m q fun d F1 H1 v p1 x1 r1 => hb.run σ env F1 H1 _ _ x1.ok (m.ext ok x1) p1 fun e F2 H2 w p2 x2 r2 => by
    have ok2 := x2.ok
    have x12 := x1.trans ok x2
    refine hr F2 H2 v w d e _ _ ok2 (r1.sub (x2.sub x1.ok)) r2 p2 fun z F3 H3 y p3 x3 r3 => ?_
    have x13 := x12.trans ok x3
    cases r3 with
    | bl b =>
      refine ⟨b, rfl, ?_⟩
      cases b with
      | true =>
        rw [if_pos rfl]
        exact hc.run σ env F3 H3 _ _ x3.ok (m.ext ok x13) p3 fun c F4 H4 y p4 x4 r4 => hr' F4 H4 w y e c _ _ x4.ok ((r2.sub (x3.sub ok2)).sub (x4.sub x3.ok)) r4 p4 fun z F5 H5 y p5 x5 r5 => k z F5 H5 y p5 ((x13.trans ok x4).trans ok x5) r5
      | false =>
        rw [if_neg Bool.false_ne_true]
        exact k _ F3 H3 _ p3 x13 (.bl false)
    | _ => exact p3.elim⟩
/-! one value -/
def a1 (f : Dat → (Dat → Prop) → Prop) (ea : AEx) : AEx := fun env P => ea env fun x => f x P
def kNeg : Dat → (Dat → Prop) → Prop
  | .int i, P => P (.int (-i))
  | _, _ => False
theorem a_neg (ha : AExp W H0 ta ea) : AExp W H0 (tUn (rU fun i => .int (-i)) ta) (a1 kNeg ea) := ⟨fun σ env F H Q P ok m q k => ha.run σ env F H _ _ ok m q fun d F1 H1 v p1 x1 r1 => by
  cases r1 with
  | int i => exact ⟨i, rfl, k _ F1 H1 _ p1 x1 (.int _)⟩
  | _ => exact p1.elim⟩
/-- the field i of an object of the class k -/
def kFld (c i : Nat) : Dat → (Dat → Prop) → Prop
  | .obj c' ds, P => c' = c ∧ oQ ds[i]? P
  | _, _ => False
theorem a_fld {c i : Nat} {f : Str} (cl : Cls W.K (W.ca c)) (na : NoAttr W.K (W.ca c) f) (hf : (clsN c)[i]? = some f) (ha : AExp W H0 ta ea) : AExp W H0 (tFld W.K ta f) (a1 (kFld c i) ea) := ⟨fun σ env F H Q P ok m q k => ha.run σ env F H _ _ ok m q fun d F1 H1 v p1 x1 r1 => by
  cases r1 with
  | @obj a dx c' fs ds fa hA rf no =>
    obtain ⟨rfl, p1⟩ := p1
    cases e : ds[i]? with
    | none =>
      rw [e] at p1
      exact p1.elim
    | some d =>
      rw [e] at p1
      obtain ⟨v, e1, rv⟩ := rf.get hf e
      exact ⟨a, _, dx, fs, v, rfl, hA, cl, na, e1, k d F1 H1 v p1 x1 rv⟩
  | _ => exact p1.elim⟩
/-! is None -/
def kIsN (n : Bool) : Dat → Dat → (Dat → Prop) → Prop := fun x y P => match y with
  | .non => (match x with
    | .non => P (.bl (!n))
    | _ => P (.bl n))
  | _ => False
theorem rok_isN : ROk W Rv Rv Rv (fun x y H Q => y = V.non ∧ Q (.bl (decide (x = V.non))) H) (kIsN false) := fun F H x y d e Q P ok r1 r2 q k => by
  cases r2 with
  | non => exact ⟨rfl, by cases r1 <;> exact k _ F H _ q (.refl ok) (.bl _)⟩
  | _ => exact q.elim
theorem rok_notN : ROk W Rv Rv Rv (fun x y H Q => y = V.non ∧ Q (.bl (!decide (x = V.non))) H) (kIsN true) := fun F H x y d e Q P ok r1 r2 q k => by
  cases r2 with
  | non => exact ⟨rfl, by cases r1 <;> exact k _ F H _ q (.refl ok) (.bl _)⟩
  | _ => exact q.elim
end

/-! ### promises over data -/
abbrev ASp := List Dat → (Dat → Prop) → Prop
abbrev ASpF := List Dat → (List Dat → Prop) → Prop
def toSp (K : PySem.W.Frag) (ca : Nat → Addr) (asp : ASp) : Sp := fun vs H Q _ => ∃ (po : Option (Addr × Addr)) (F : Addr → Prop) (ds : List Dat) (P : Dat → Prop), Okk ⟨K, ca, po⟩ F H ∧ RvAll ⟨K, ca, po⟩ F H vs ds ∧ asp ds P ∧
  ∀ d F' H' v, P d → Ext ⟨K, ca, po⟩ F H F' H' → Rv ⟨K, ca, po⟩ F' H' v d → Q v H'
/-- a promise of a list that is new, and not kept by anybody -/
def toSpF (K : PySem.W.Frag) (ca : Nat → Addr) (asp : ASpF) : Sp := fun vs H Q _ => ∃ (po : Option (Addr × Addr)) (F : Addr → Prop) (ds : List Dat) (P : List Dat → Prop), Okk ⟨K, ca, po⟩ F H ∧ RvAll ⟨K, ca, po⟩ F H vs ds ∧ asp ds P ∧
  ∀ ds F' H' a vs, P ds → Ext ⟨K, ca, po⟩ F H F' H' → H a = none → ¬ F' a → H' a = some (.lst vs) → RvAll ⟨K, ca, po⟩ F' H' vs ds → Q (.ref a) H'
def aCall (asp : ASp) (aa : AFr) : AEx := fun env P => aa env fun ds => asp ds P
def aCallF (asp : ASpF) (aa : AFr) : AFr := fun env P => aa env fun ds => asp ds P
/-- a method: the object ahead of the arguments -/
def aMeth (c : Nat) (asp : ASp) (ea : AEx) (aa : AFr) : AEx := fun env P => ea env fun x => (match x with
  | .obj c' _ => c' = c
  | _ => False) ∧ aa env fun ds => asp (x :: ds) P
section
variable {K : PySem.W.Frag} {ca : Nat → Addr} {po : Option (Addr × Addr)} {H0 : Hp} {te ta tb : TE} {ae ea eb : AEx}
theorem a_call {n : Nat} {E : XK} {t : TA} {aa : AFr} {asp : ASp} (h : AArg ⟨K, ca, po⟩ H0 n t aa) : AExp ⟨K, ca, po⟩ H0 (tCall (toSp K ca asp) [] E t) (aCall asp aa) :=
  ⟨fun σ env F H Q P ok m q k => h.run σ env F H _ _ ok m q fun ds F1 H1 vs p1 x1 r1 _ => by
    rw [List.append_nil]
    exact ⟨po, F1, ds, P, x1.ok, r1, p1, fun d F' H' v p x r => k d F' H' v p (x1.trans ok x) r⟩⟩
theorem a_callF {n : Nat} {E : XK} {t : TA} {aa : AFr} {asp : ASpF} (h : AArg ⟨K, ca, po⟩ H0 n t aa) : AFrs ⟨K, ca, po⟩ H0 (tCall (toSpF K ca asp) [] E t) (aCallF asp aa) :=
  ⟨fun σ env F H Q P ok m q k => h.run σ env F H _ _ ok m q fun ds F1 H1 vs p1 x1 r1 _ => by
    rw [List.append_nil]
    exact ⟨po, F1, ds, P, x1.ok, r1, p1, fun d F' H' a ws p x n nf ha r => k d F' H' a ws p (x1.trans ok x) (x1.there ok n) nf ha r⟩⟩
theorem a_meth {n c : Nat} {E : XK} {mt : Str} {t : TA} {aa : AFr} {asp : ASp} (nm : mt ∉ clsN c) (ha : AExp ⟨K, ca, po⟩ H0 ta ea) (h : AArg ⟨K, ca, po⟩ H0 n t aa) : AExp ⟨K, ca, po⟩ H0 (tMeth (ca c) mt (toSp K ca asp) [] E ta t) (aMeth c asp ea aa) :=
  ⟨fun σ env F H Q P ok m q k => ha.run σ env F H _ _ ok m q fun d F1 H1 v p1 x1 r1 => by
    cases r1 with
    | @obj a dx c' fs ds fa hA rf no =>
      obtain ⟨e, p1⟩ := p1
      have e : c' = c := e
      subst e
      refine ⟨a, dx, fs, rfl, hA, no mt nm, ?_⟩
      refine h.run σ env F1 H1 _ _ x1.ok (m.ext ok x1) p1 fun es F2 H2 vs p2 x2 r2 _ => ?_
      rw [List.append_nil]
      exact ⟨po, F2, _, P, x2.ok, .cons ((Rv.obj fa hA rf no).sub (x2.sub x1.ok)) r2, p2, fun d F' H' v p x r => k d F' H' v p ((x1.trans ok x2).trans ok x) r⟩
    | _ => exact p1.1.elim⟩
end
/-! ### what a for, a comprehension walks -/
structure ItOk (W : Wd) (J : It) (F : Addr → Prop) (H : Hp) (ds : List Dat) : Prop where
  it : ∀ (F2 : Addr → Prop) (H2 : Hp), Okk W F2 H2 → Sub F H F2 H2 → ∀ (i : Nat) (d : Dat), ds[i]? = some d → J.go i H2 ∧ ∀ x H3, J.yld i H2 x H3 → ∃ F3, Ext W F2 H2 F3 H3 ∧ Rv W F3 H3 x d
  done : ∀ (F2 : Addr → Prop) (H2 : Hp), Okk W F2 H2 → Sub F H F2 H2 → J.stop ds.length H2
structure AIter (W : Wd) (H0 : Hp) (wi : TI) (ai : AFr) : Prop where
  run : ∀ (σ : L2.St) (env : List Sl) (F : Addr → Prop) (H : Hp) (R : It → Hp → Prop) (P : List Dat → Prop), Okk W F H → Mt W H0 F H σ env → ai env P →
    (∀ ds F' H' J, P ds → Ext W F H F' H' → ItOk W J F' H' ds → R J H') → wi σ H R
def lQ : Dat → (List Dat → Prop) → Prop
  | .lst xs, P => P xs
  | _, _ => False
def tQ : Dat → (List Dat → Prop) → Prop
  | .tup xs, P => P xs
  | _, _ => False
/-- over a list (k = false) or a tuple (k = true) -/
def kQ (k : Bool) : Dat → (List Dat → Prop) → Prop := fun d P => match k with
  | true => tQ d P
  | false => lQ d P
def iSeq (q : Dat → (List Dat → Prop) → Prop) (ea : AEx) : AFr := fun env P => ea env fun x => q x P
def iRan (aa : AFr) : AFr := fun env P => aa env fun ds => match ds with
  | [.int j] => j < 1000000000000 ∧ -1000000000000 < j ∧ P ((List.range j.toNat).map fun (i : Nat) => Dat.int (0 + (i : Int)))
  | [.int i, .int j] => (j < 1000000000000 ∧ -1000000000000 < j ∧ i < 1000000000000 ∧ -1000000000000 < i) ∧ P ((List.range (j - i).toNat).map fun (n : Nat) => Dat.int (i + (n : Int)))
  | _ => False
section
variable {W : Wd} {H0 : Hp} {te ta tb : TE} {ae ea eb : AEx}
theorem it_list {F : Addr → Prop} {H : Hp} {a : Addr} {vs : List V} {ds : List Dat} (f : F a) (h : H a = some (.lst vs)) (r : RvAll W F H vs ds) : ItOk W (Itl W.K a) F H ds := by
  refine ⟨fun F2 H2 ok s i d e => ?_, fun F2 H2 ok s => ?_⟩
  · have h2 : H2 a = some (.lst vs) := (s a f).2.trans h
    obtain ⟨v, e1, rv⟩ := r.get e
    refine ⟨⟨vs, v, SqL.of h2, e1⟩, fun x H3 y => ?_⟩
    obtain ⟨rfl, y⟩ := y
    have e2 := y vs (SqL.of h2)
    rw [e1] at e2
    cases e2
    exact ⟨F2, .refl ok, rv.sub s⟩
  · exact ⟨vs, SqL.of ((s a f).2.trans h), by rw [r.length]; exact Nat.le_refl _⟩
theorem it_tup {F : Addr → Prop} {H : Hp} {a : Addr} {vs : List V} {ds : List Dat} (h : FzT W F H a vs) (r : RvAll W F H vs ds) : ItOk W (Itt W.K a) F H ds := by
  refine ⟨fun F2 H2 ok s i d e => ?_, fun F2 H2 ok s => ?_⟩
  · have h2 := (h.sub s).sq
    obtain ⟨v, e1, rv⟩ := r.get e
    refine ⟨⟨vs, v, h2, e1⟩, fun x H3 y => ?_⟩
    obtain ⟨rfl, y⟩ := y
    have e2 := y vs h2
    rw [e1] at e2
    cases e2
    exact ⟨F2, .refl ok, rv.sub s⟩
  · exact ⟨vs, (h.sub s).sq, by rw [r.length]; exact Nat.le_refl _⟩
theorem i_list (ha : AExp W H0 ta ea) : AIter W H0 (iList W.K ta) (iSeq lQ ea) := ⟨fun σ env F H R P ok m q k => ha.run σ env F H _ _ ok m q fun d F1 H1 v p1 x1 r1 => by
  cases r1 with
  | lst f h r => exact ⟨_, rfl, ⟨_, SqL.of h⟩, k _ F1 H1 _ p1 x1 (it_list f h r)⟩
  | _ => exact p1.elim⟩
theorem i_tup (ha : AExp W H0 ta ea) : AIter W H0 (iTup W.K ta) (iSeq tQ ea) := ⟨fun σ env F H R P ok m q k => ha.run σ env F H _ _ ok m q fun d F1 H1 v p1 x1 r1 => by
  cases r1 with
  | tup h r => exact ⟨_, rfl, ⟨_, h.sq⟩, k _ F1 H1 _ p1 x1 (it_tup h r)⟩
  | _ => exact p1.elim⟩
theorem it_ran {F : Addr → Prop} {H : Hp} (lo : Int) (n : Nat) : ItOk W (Itr lo n) F H ((List.range n).map fun (i : Nat) => Dat.int (lo + (i : Int))) := by
  refine ⟨fun F2 H2 ok s i d e => ?_, fun F2 H2 ok s => ?_⟩
  · rw [List.getElem?_map] at e
    cases h : (List.range n)[i]? with
    | none =>
      rw [h] at e
      cases e
    | some j =>
      rw [h] at e
      obtain ⟨hl, e1⟩ := List.getElem?_eq_some_iff.mp h
      rw [List.getElem_range] at e1
      subst e1
      rw [List.length_range] at hl
      cases e
      refine ⟨hl, fun x H3 y => ?_⟩
      obtain ⟨rfl, rfl⟩ := y
      exact ⟨F2, .refl ok, .int _⟩
  · rw [List.length_map, List.length_range]
    exact Nat.le_refl n
theorem i_ran1 {t : TA} {aa : AFr} (h : AArg W H0 1 t aa) : AIter W H0 (iRng1 t) (iRan aa) := ⟨fun σ env F H R P ok m q k => h.run σ env F H _ _ ok m q fun ds F1 H1 vs p1 x1 r1 l1 => by
  match ds, l1, p1, r1 with
  | [.int j], _, p1, .cons r .nil =>
    obtain ⟨p0, p2, p1⟩ := p1
    cases r
    exact ⟨j, rfl, by omega, by omega, k _ F1 H1 _ p1 x1 (it_ran 0 j.toNat)⟩⟩
end
/-! ### targets -/
abbrev ATg := Dat → List Sl → (List Sl → Prop) → Prop
/-- vs: the slots that it stores to -/
structure ATgt (W : Wd) (H0 : Hp) (vs : List Nat) (g : TG) (ag : ATg) : Prop where
  run : ∀ (v : V) (d : Dat) (σ : L2.St) (env : List Sl) (F : Addr → Prop) (H : Hp) (Q : L2.St → Hp → Prop) (P : List Sl → Prop), Okk W F H → Mt W H0 F H σ env → Rv W F H v d → ag d env P →
    (∀ env' σ', P env' → Mt W H0 F H σ' env' → wipe σ' vs = wipe σ vs → Q σ' H) → g v σ H Q
structure ATgs (W : Wd) (H0 : Hp) (vs : List Nat) (n : Nat) (g : TGs) (ag : List Dat → List Sl → (List Sl → Prop) → Prop) : Prop where
  run : ∀ (xs : List V) (ds : List Dat) (σ : L2.St) (env : List Sl) (F : Addr → Prop) (H : Hp) (Q : L2.St → Hp → Prop) (P : List Sl → Prop), Okk W F H → Mt W H0 F H σ env → RvAll W F H xs ds → ag ds env P →
    (∀ env' σ', P env' → Mt W H0 F H σ' env' → wipe σ' vs = wipe σ vs → Q σ' H) → g xs σ H Q
  ln : ∀ ds env P, ag ds env P → ds.length = n
def gA (i : Nat) : ATg := fun d env P => P (env.set i (.d d))
def gTu (ag : List Dat → List Sl → (List Sl → Prop) → Prop) : ATg := fun d env P => tQ d fun ds => ag ds env P
def gNilA : List Dat → List Sl → (List Sl → Prop) → Prop := fun ds env P => match ds with
  | [] => P env
  | _ :: _ => False
def gConsA (g : ATg) (ag : List Dat → List Sl → (List Sl → Prop) → Prop) : List Dat → List Sl → (List Sl → Prop) → Prop := fun ds env P => match ds with
  | [] => False
  | d :: ds => g d env fun env2 => ag ds env2 P
theorem wipe_set (σ : L2.St) (i : Nat) (x : Option V) : ∀ vs : List Nat, i ∈ vs → wipe (σ.set i x) vs = wipe σ vs
  | [], h => by cases h
  | v :: vs, h => by
    show (wipe (σ.set i x) vs).set v none = (wipe σ vs).set v none
    by_cases hv : i ∈ vs
    · rw [wipe_set σ i x vs hv]
    · have e : i = v := (List.mem_cons.mp h).resolve_right hv
      subst e
      have com : ∀ us : List Nat, i ∉ us → wipe (σ.set i x) us = (wipe σ us).set i x := fun us => by
        induction us with
        | nil => intro _; rfl
        | cons u us ih =>
          intro hu
          show (wipe (σ.set i x) us).set u none = ((wipe σ us).set u none).set i x
          rw [ih (fun z => hu (List.mem_cons_of_mem _ z)), List.set_comm _ _ (fun z => hu (by rw [z]; exact List.mem_cons_self))]
      rw [com vs hv, List.set_set]
theorem wipe_wipe (σ : L2.St) : ∀ vs : List Nat, wipe (wipe σ vs) vs = wipe σ vs
  | [] => rfl
  | v :: vs => by
    have e := wipe_set (wipe σ vs) v none (v :: vs) List.mem_cons_self
    show wipe ((wipe σ vs).set v none) (v :: vs) = (wipe σ vs).set v none
    rw [e]
    show (wipe (wipe σ vs) vs).set v none = _
    rw [wipe_wipe σ vs]
section
variable {W : Wd} {H0 : Hp} {vs : List Nat}
theorem g_name {i : Nat} (h : i ∈ vs := by decide) : ATgt W H0 vs (gName i) (gA i) := ⟨fun v d σ env F H Q P ok m r q k => k _ _ q (m.setD i r) (wipe_set σ i _ vs h)⟩
theorem g_tup {n : Nat} {t : TGs} {ag : List Dat → List Sl → (List Sl → Prop) → Prop} (h : ATgs W H0 vs n t ag) : ATgt W H0 vs (gTup W.K n t) (gTu ag) := ⟨fun v d σ env F H Q P ok m r q k => by
  cases r with
  | tup hA rr => exact ⟨_, _, rfl, hA.sq, rr.length.trans (h.ln _ _ _ q), h.run _ _ σ env F H Q P ok m rr q k⟩
  | _ => exact q.elim⟩
theorem g_nil : ATgs W H0 vs 0 gNil gNilA := ⟨fun xs ds σ env F H Q P ok m r q k => by
  cases r with
  | nil => exact ⟨rfl, k env σ q m rfl⟩
  | cons _ _ => exact q.elim, fun ds env P q => by
  cases ds with
  | nil => rfl
  | cons _ _ => exact q.elim⟩
theorem g_cons {n : Nat} {t : TG} {ag : ATg} {u : TGs} {au : List Dat → List Sl → (List Sl → Prop) → Prop} (h : ATgt W H0 vs t ag) (h2 : ATgs W H0 vs n u au) (tot : ∀ d env P, ag d env P → ∃ env2, P env2) : ATgs W H0 vs (n + 1) (gCons t u) (gConsA ag au) := ⟨fun xs ds σ env F H Q P ok m r q k => by
  cases r with
  | nil => exact q.elim
  | cons r rs => exact ⟨_, _, rfl, h.run _ _ σ env F H _ _ ok m r q fun env2 σ2 p2 m2 w2 => h2.run _ _ σ2 env2 F H Q P ok m2 rs p2 fun env3 σ3 p3 m3 w3 => k env3 σ3 p3 m3 (w3.trans w2)⟩, fun ds env P q => by
  cases ds with
  | nil => exact q.elim
  | cons d ds =>
    obtain ⟨env2, p⟩ := tot d env _ q
    exact congrArg (· + 1) (h2.ln ds env2 P p)⟩
theorem tot_name {i : Nat} : ∀ d env P, gA i d env P → ∃ env2, P env2 := fun _ _ _ q => ⟨_, q⟩
theorem tot_tup {ag : List Dat → List Sl → (List Sl → Prop) → Prop} (h : ∀ ds env P, ag ds env P → ∃ env2, P env2) : ∀ d env P, gTu ag d env P → ∃ env2, P env2 := fun d env P q => by
  cases d with
  | tup ds => exact h ds env P q
  | _ => exact q.elim
theorem tot_nil : ∀ ds env P, gNilA ds env P → ∃ env2, P env2 := fun ds env P q => by
  cases ds with
  | nil => exact ⟨_, q⟩
  | cons _ _ => exact q.elim
theorem tot_cons {g : ATg} {ag : List Dat → List Sl → (List Sl → Prop) → Prop} (h : ∀ d env P, g d env P → ∃ env2, P env2) (h2 : ∀ ds env P, ag ds env P → ∃ env2, P env2) : ∀ ds env P, gConsA g ag ds env P → ∃ env2, P env2 := fun ds env P q => by
  cases ds with
  | nil => exact q.elim
  | cons d ds =>
    obtain ⟨env2, p⟩ := h d env _ q
    exact h2 ds env2 P p
end
/-! ### a comprehension -/
def wipeA (env : List Sl) : List Nat → List Sl
  | [] => env
  | v :: vs => (wipeA env vs).set v .u
theorem Mt.wipe {W : Wd} {H0 : Hp} {F : Addr → Prop} {H : Hp} {σ : L2.St} {env : List Sl} (m : Mt W H0 F H σ env) : ∀ vs : List Nat, Mt W H0 F H (L2.wipe σ vs) (wipeA env vs)
  | [] => m
  | v :: vs => by
    have m2 := m.wipe vs
    show Mt W H0 F H ((L2.wipe σ vs).set v none) ((wipeA env vs).set v .u)
    generalize L2.wipe σ vs = σ2 at m2
    generalize wipeA env vs = env2 at m2
    refine ⟨by rw [List.length_set, List.length_set, m2.ln], fun j s e => ?_, fun j k xs ys a e1 e2 e3 e4 => ?_⟩
    · by_cases h : j = v
      · subst h
        have hl : j < env2.length := by
          have := (List.getElem?_eq_some_iff.mp e).1
          rwa [List.length_set] at this
        rw [List.getElem?_set_self hl] at e
        cases e
        exact ⟨none, List.getElem?_set_self (by rw [← m2.ln]; exact hl), trivial⟩
      · rw [List.getElem?_set_ne (Ne.symm h)] at e ⊢
        exact m2.at_ j s e
    · have n1 : ∀ {j : Nat} {xs : List Dat}, (env2.set v .u)[j]? = some (.o xs) → j ≠ v := fun {j xs} e z => by
        subst z
        have hl : j < env2.length := by
          have := (List.getElem?_eq_some_iff.mp e).1
          rwa [List.length_set] at this
        rw [List.getElem?_set_self hl] at e
        cases e
      have a1 := n1 e1
      have a2 := n1 e2
      rw [List.getElem?_set_ne (Ne.symm a1)] at e1 e3
      rw [List.getElem?_set_ne (Ne.symm a2)] at e2 e4
      exact m2.own j k xs ys a e1 e2 e3 e4
/-- the items that are made of ds, behind those of acc -/
def lcA (el : Dat → (Option Dat → Prop) → Prop) (P : List Dat → Prop) : List Dat → List Dat → Prop
  | [], acc => P acc
  | d :: ds, acc => el d fun o => match o with
    | some y => lcA el P ds (acc ++ [y])
    | none => lcA el P ds acc
def elA (ag : ATg) (at_ : ATs) (ea : AEx) (env : List Sl) : Dat → (Option Dat → Prop) → Prop := fun d P => ag d env fun env2 => at_ env2 fun b => two b (ea env2 fun y => P (some y)) (P none)
def aLc (ai : AFr) (ag : ATg) (at_ : ATs) (ea : AEx) (vs : List Nat) : AFr := fun env P => ai env fun ds => ds.length ≤ 100000 ∧ lcA (elA ag at_ ea (wipeA env vs)) P ds []
def aYes : ATs := fun _ P => P true
theorem a_yes {W : Wd} {H0 : Hp} : ATst W H0 tYes aYes := ⟨fun _ _ F H _ _ ok _ h k => k true F H h (.refl ok)⟩
theorem a_lc {W : Wd} {H0 : Hp} {wi : TI} {g : TG} {tt : TT} {te : TE} {vs : List Nat} {ai : AFr} {ag : ATg} {at_ : ATs} {ea : AEx} (hi : AIter W H0 wi ai) (hg : ATgt W H0 vs g ag) (ht : ATst W H0 tt at_) (he : AExp W H0 te ea) :
    AFrs W H0 (tLc wi g tt te vs) (aLc ai ag at_ ea vs) := ⟨fun σ env F H Q P ok m q k => hi.run σ env F H _ _ ok m q fun ds F1 H1 J p1 x1 itk => by
  intro D hD
  obtain ⟨sz, p1⟩ := p1
  have ok1 := x1.ok
  have m1 := m.ext ok x1
  have np : ∀ p c, W.po = some (p, c) → D ≠ p ∧ D ≠ c := ok1.pne hD
  refine ⟨fun i n H' => n + i = ds.length ∧ ∃ F' acc ys, Ext W F1 H1 F' H' ∧ ¬ F' D ∧ H' D = some (.lst acc) ∧ RvAll W F' H' acc ys ∧ ys.length ≤ i ∧ lcA (elA ag at_ ea (wipeA env vs)) P (ds.drop i) ys,
    ⟨ds.length, rfl, F1, [], [], Ext.lay ok1 hD, fun f => ok1.tr D f hD, upd_same, .nil, Nat.le_refl _, p1⟩, ?_⟩
  rintro i n H2 ⟨hn, F2, acc, ys, x2, nf, hA, r2, ly, p2⟩
  have ok2 := x2.ok
  by_cases hlt : i < ds.length
  · have hd : ds[i]? = some ds[i] := List.getElem?_eq_getElem hlt
    obtain ⟨go, yl⟩ := itk.it F2 H2 ok2 (x2.sub ok1) i _ hd
    rw [List.drop_eq_getElem_cons hlt] at p2
    refine .inr ⟨go, fun H' => ∃ F' acc ys, Ext W F1 H1 F' H' ∧ ¬ F' D ∧ H' D = some (.lst acc) ∧ RvAll W F' H' acc ys ∧ ys.length ≤ i + 1 ∧ lcA (elA ag at_ ea (wipeA env vs)) P (ds.drop (i + 1)) ys,
      fun H' ⟨F', acc, ys, rest⟩ => ⟨n - 1, by omega, by omega, F', acc, ys, rest⟩, fun x H3 y => ?_⟩
    obtain ⟨F3, x3, rx⟩ := yl x H3 y
    have x13 := x2.trans ok1 x3
    refine hg.run x _ _ _ F3 H3 _ _ x3.ok ((m1.ext ok1 x13).wipe vs) rx p2 fun env4 σ4 p4 m4 w4 => ?_
    refine ⟨w4.trans (wipe_wipe σ vs), ht.run σ4 env4 F3 H3 _ _ x3.ok m4 p4 fun b F5 H5 p5 x5 => ?_⟩
    have keep : ∀ {Fa Fb : Addr → Prop} {Ha Hb : Hp}, Ext W Fa Ha Fb Hb → ¬ Fa D → Ha D = some (.lst acc) → ¬ Fb D ∧ Hb D = some (.lst acc) := fun {Fa Fb Ha Hb} x nf h => by
      refine ⟨fun f => ?_, x.kp D _ h (fun p c e => (np p c e).1)⟩
      rcases x.dn D f with z | z
      · exact nf z
      · rw [z] at h
        cases h
    obtain ⟨nf3, h3⟩ := keep x3 nf hA
    obtain ⟨nf5, h5⟩ := keep x5 nf3 h3
    have x35 := x3.trans ok2 x5
    have x15 := x2.trans ok1 x35
    cases b with
    | true =>
      rw [if_pos rfl]
      refine he.run σ4 env4 F5 H5 _ _ x5.ok (m4.ext x3.ok x5) p5 fun e F6 H6 v p6 x6 r6 => ?_
      obtain ⟨nf6, h6⟩ := keep x6 nf5 h5
      have x16 := x15.trans ok1 x6
      have r26 := r2.sub ((x35.trans ok2 x6).sub ok2)
      have sb : Sub F6 H6 F6 (upd H6 D (.lst (acc ++ [v]))) := fun a f => ⟨f, upd_ne (fun z => nf6 (by rw [← z]; exact f))⟩
      refine ⟨acc, h6, len_size (by rw [r2.length]; omega), F6, _, ys ++ [e], ⟨x16.up, x16.dn, fun a o ha npa => ?_, ⟨fun a f => ?_, fun p c ep => ?_⟩⟩, nf6, upd_same, (r26.append (.cons r6 .nil)).sub sb, by rw [List.length_append]; exact Nat.succ_le_succ ly, p6⟩
      · rw [upd_ne (ne_of_none ha hD)]
        exact x16.kp a o ha npa
      · rw [(sb a f).2]
        exact x16.ok.tr a f
      · obtain ⟨h1, h2, h3⟩ := x16.ok.po p c ep
        exact ⟨h1.mut (np p c ep).1 (np p c ep).2, h2, h3⟩
    | false =>
      rw [if_neg Bool.false_ne_true]
      exact ⟨F5, acc, ys, x15, nf5, h5, r2.sub (x35.sub ok2), by omega, p5⟩
  · have e : i = ds.length := by omega
    subst e
    rw [List.drop_length] at p2
    exact .inl ⟨itk.done F2 H2 ok2 (x2.sub ok1), k ys F2 H2 D acc p2 (x1.trans ok x2) (x1.there ok hD) nf hA r2⟩⟩

/-! ### statements over data -/
structure AEnds where
  nx : List Sl → Prop
  rt : Dat → Prop
  bk : List Sl → Prop := fun _ => False
  ct : List Sl → Prop := fun _ => False
abbrev ASt := AEnds → List Sl → Prop
/-- the states of a def's body: F0, H0 its entry; what is settled in F1, H1 stays -/
structure Bse (W : Wd) (F0 : Addr → Prop) (H0 : Hp) (F1 : Addr → Prop) (H1 : Hp) (F : Addr → Prop) (H : Hp) : Prop where
  ex : Ext W F0 H0 F H
  sb : Sub F1 H1 F H
theorem Sub.trans {F F' F2 : Addr → Prop} {H H' H2 : Hp} (a : Sub F H F' H') (b : Sub F' H' F2 H2) : Sub F H F2 H2 := fun x f => ⟨(b x (a x f).1).1, (b x (a x f).1).2.trans (a x f).2⟩
theorem Sub.refl (F : Addr → Prop) (H : Hp) : Sub F H F H := fun _ f => ⟨f, rfl⟩
structure EndsOk (W : Wd) (F0 : Addr → Prop) (H0 : Hp) (F1 : Addr → Prop) (H1 : Hp) (De : Ends) (Da : AEnds) : Prop where
  nx : ∀ σ env F H, Bse W F0 H0 F1 H1 F H → Mt W H0 F H σ env → Da.nx env → De.nx σ H
  rt : ∀ v d F H, Bse W F0 H0 F1 H1 F H → Rv W F H v d → Da.rt d → De.rt v H
  bk : ∀ σ env F H, Bse W F0 H0 F1 H1 F H → Mt W H0 F H σ env → Da.bk env → De.bk σ H
  ct : ∀ σ env F H, Bse W F0 H0 F1 H1 F H → Mt W H0 F H σ env → Da.ct env → De.ct σ H
structure AStm (W : Wd) (ts : TS) (as : ASt) : Prop where
  run : ∀ (F0 : Addr → Prop) (H0 : Hp) (F1 : Addr → Prop) (H1 : Hp) (De : Ends) (Da : AEnds) (σ : L2.St) (env : List Sl) (F : Addr → Prop) (H : Hp), Okk W F0 H0 → Bse W F0 H0 F1 H1 F H → Mt W H0 F H σ env → EndsOk W F0 H0 F1 H1 De Da → as Da env → ts De σ H
theorem Bse.step {W : Wd} {F0 F1 F F' : Addr → Prop} {H0 H1 H H' : Hp} (ok0 : Okk W F0 H0) (b : Bse W F0 H0 F1 H1 F H) (x : Ext W F H F' H') : Bse W F0 H0 F1 H1 F' H' := ⟨b.ex.trans ok0 x, b.sb.trans (x.sub b.ex.ok)⟩
theorem EndsOk.mono {W : Wd} {F0 F1 F : Addr → Prop} {H0 H1 H : Hp} {De : Ends} {Da : AEnds} (s : Sub F1 H1 F H) (k : EndsOk W F0 H0 F1 H1 De Da) : EndsOk W F0 H0 F H De Da :=
  ⟨fun σ env F H b => k.nx σ env F H ⟨b.ex, s.trans b.sb⟩, fun v d F H b => k.rt v d F H ⟨b.ex, s.trans b.sb⟩, fun σ env F H b => k.bk σ env F H ⟨b.ex, s.trans b.sb⟩, fun σ env F H b => k.ct σ env F H ⟨b.ex, s.trans b.sb⟩⟩
def sNext : ASt := fun D env => D.nx env
def sSeq (a b : ASt) : ASt := fun D env => a { D with nx := b D } env
def sCut (a b : ASt) : ASt := fun D env => ∃ Mid : List Sl → Prop, a { D with nx := Mid } env ∧ ∀ env', Mid env' → b D env'
def sIf (c : ATs) (a b : ASt) : ASt := fun D env => c env fun t => two t (a D env) (b D env)
def sAsg (ea : AEx) (g : ATg) : ASt := fun D env => ea env fun d => g d env D.nx
def sSetO (i : Nat) (af : AFr) : ASt := fun D env => af env fun ds => D.nx (env.set i (.o ds))
def sRet (ea : AEx) : ASt := fun D env => ea env D.rt
def sRetN : ASt := fun D _ => D.rt .non
def sDrop (ea : AEx) : ASt := fun D env => ea env fun _ => D.nx env
def sPar (i j : Nat) (aa : AFr) : ASt := fun D env => aa env fun ds => match ds with
  | [x, y] => D.nx ((env.set i (.d x)).set j (.d y))
  | _ => False
def oQ2 : Sl → (List Dat → Prop) → Prop
  | .o xs, P => P xs
  | _, _ => False
/-- x.append(e), x a list of the def's own -/
def sApp (i : Nat) (ea : AEx) : ASt := fun D env => oQ2 (dAt env i) fun xs => xs.length < 100000 ∧ ea env fun d => D.nx (env.set i (.o (xs ++ [d])))
/-- no statement: from here on the list in slot i is only read -/
def sFz (i : Nat) (a : ASt) : ASt := fun D env => oQ2 (dAt env i) fun xs => a D (env.set i (.d (.lst xs)))
def sAug (i : Nat) (ea : AEx) (f : Dat → Dat → (Dat → Prop) → Prop) : ASt := fun D env => dQ (dAt env i) fun x => ea env fun y => f x y fun z => D.nx (env.set i (.d z))
def forA (g : ATg) (b : ASt) (D : AEnds) : List Dat → List Sl → Prop
  | [], env => D.nx env
  | d :: ds, env => g d env fun env2 => b { D with nx := forA g b D ds, ct := forA g b D ds, bk := D.nx } env2
def sFor (ai : AFr) (g : ATg) (b : ASt) : ASt := fun D env => ai env fun ds => forA g b D ds env
section
variable {W : Wd} {ts tu : TS} {as au : ASt}
theorem s_next : AStm W tNext sNext := ⟨fun F0 H0 F1 H1 De Da σ env F H ok b m k h => k.nx σ env F H b m h⟩
theorem s_seq (h1 : AStm W ts as) (h2 : AStm W tu au) : AStm W (tSeq ts tu) (sSeq as au) := ⟨fun F0 H0 F1 H1 De Da σ env F H ok b m k h =>
  h1.run F0 H0 F1 H1 { De with nx := tu De } { Da with nx := au Da } σ env F H ok b m ⟨fun σ env F H b m h => h2.run F0 H0 F1 H1 De Da σ env F H ok b m k h, k.rt, k.bk, k.ct⟩ h⟩
theorem s_cut (h1 : AStm W ts as) (h2 : AStm W tu au) : AStm W (C8.tCut ts tu) (sCut as au) := ⟨fun F0 H0 F1 H1 De Da σ env F H ok b m k ⟨Mid, h, q⟩ =>
  ⟨fun σ' H' => ∃ env' F', Bse W F0 H0 F1 H1 F' H' ∧ Mt W H0 F' H' σ' env' ∧ Mid env', h1.run F0 H0 F1 H1 _ { Da with nx := Mid } σ env F H ok b m ⟨fun σ env F H b m h => ⟨env, F, b, m, h⟩, k.rt, k.bk, k.ct⟩ h,
    fun σ' H' ⟨env', F', b', m', hm⟩ => h2.run F0 H0 F1 H1 De Da σ' env' F' H' ok b' m' k (q env' hm)⟩⟩
theorem s_if {t : TT} {c : ATs} (ht : ∀ H0, ATst W H0 t c) (h1 : AStm W ts as) (h2 : AStm W tu au) : AStm W (tIfS t ts tu) (sIf c as au) := ⟨fun F0 H0 F1 H1 De Da σ env F H ok b m k h =>
  (ht H0).run σ env F H _ _ b.ex.ok m h fun t F' H' p x => by
    have b' := b.step ok x
    have m' := m.ext b.ex.ok x
    cases t with
    | true =>
      rw [if_pos rfl]
      exact h1.run F0 H0 F1 H1 De Da σ env F' H' ok b' m' k p
    | false =>
      rw [if_neg Bool.false_ne_true]
      exact h2.run F0 H0 F1 H1 De Da σ env F' H' ok b' m' k p⟩
theorem s_asg {te : TE} {ea : AEx} {g : TG} {ag : ATg} {vs : List Nat} (he : ∀ H0, AExp W H0 te ea) (hg : ∀ H0, ATgt W H0 vs g ag) : AStm W (tAsg te g) (sAsg ea ag) := ⟨fun F0 H0 F1 H1 De Da σ env F H ok b m k h =>
  (he H0).run σ env F H _ _ b.ex.ok m h fun d F' H' v p x r => (hg H0).run v d σ env F' H' _ _ x.ok (m.ext b.ex.ok x) r p fun env' σ' p' m' _ => k.nx σ' env' F' H' (b.step ok x) m' p'⟩
theorem s_set {te : TE} {ea : AEx} {i : Nat} (he : ∀ H0, AExp W H0 te ea) : AStm W (tAsg te (gName i)) (sAsg ea (gA i)) := s_asg (vs := [i]) he fun _ => g_name List.mem_cons_self
theorem s_ret {te : TE} {ea : AEx} (he : ∀ H0, AExp W H0 te ea) : AStm W (tRet te) (sRet ea) := ⟨fun F0 H0 F1 H1 De Da σ env F H ok b m k h =>
  (he H0).run σ env F H _ _ b.ex.ok m h fun d F' H' v p x r => k.rt v d F' H' (b.step ok x) r p⟩
theorem s_retN : AStm W tRetN sRetN := ⟨fun F0 H0 F1 H1 De Da σ env F H ok b m k h => k.rt .non .non F H b .non h⟩
theorem s_drop {te : TE} {ea : AEx} (he : ∀ H0, AExp W H0 te ea) : AStm W (tDrop te) (sDrop ea) := ⟨fun F0 H0 F1 H1 De Da σ env F H ok b m k h =>
  (he H0).run σ env F H _ _ b.ex.ok m h fun d F' H' v p x r => k.nx σ env F' H' (b.step ok x) (m.ext b.ex.ok x) p⟩
theorem s_par {i j : Nat} {t : TA} {aa : AFr} (he : ∀ H0, AArg W H0 2 t aa) : AStm W (tPar i j t) (sPar i j aa) := ⟨fun F0 H0 F1 H1 De Da σ env F H ok b m k h =>
  (he H0).run σ env F H _ _ b.ex.ok m h fun ds F' H' vs p x r l => by
    match ds, l, p, r with
    | [d, e], _, p, .cons r1 (.cons r2 .nil) =>
      exact ⟨_, _, rfl, k.nx _ _ F' H' (b.step ok x) (((m.ext b.ex.ok x).setD i r1).setD j r2) p⟩⟩
/-- a new list for a slot -/
theorem Mt.setO {H0 : Hp} {F : Addr → Prop} {H : Hp} {σ : L2.St} {env : List Sl} (m : Mt W H0 F H σ env) (i : Nat) {a : Addr} {vs : List V} {ds : List Dat} (nf : ¬ F a) (n0 : H0 a = none) (hA : H a = some (.lst vs)) (r : RvAll W F H vs ds) (np : ∀ p c, W.po = some (p, c) → a ≠ p ∧ a ≠ c)
    (ne : ∀ j xs, j ≠ i → env[j]? = some (.o xs) → σ[j]? ≠ some (some (.ref a))) : Mt W H0 F H (σ.set i (some (.ref a))) (env.set i (.o ds)) := by
  refine ⟨by rw [List.length_set, List.length_set, m.ln], fun j s e => ?_, fun j k xs ys b e1 e2 e3 e4 => ?_⟩
  · by_cases h : j = i
    · subst h
      have hl : j < env.length := by
        have := (List.getElem?_eq_some_iff.mp e).1
        rwa [List.length_set] at this
      rw [List.getElem?_set_self hl] at e
      cases e
      exact ⟨some (.ref a), List.getElem?_set_self (by rw [← m.ln]; exact hl), a, vs, rfl, nf, n0, hA, r, np⟩
    · rw [List.getElem?_set_ne (Ne.symm h)] at e ⊢
      exact m.at_ j s e
  · have at_i : ∀ {j : Nat} {b : Addr}, j = i → (σ.set i (some (V.ref a)))[j]? = some (some (.ref b)) → b = a := fun {j b} z e => by
      subst z
      have hl : j < σ.length := by
        have := (List.getElem?_eq_some_iff.mp e).1
        rwa [List.length_set] at this
      rw [List.getElem?_set_self hl] at e
      cases e
      rfl
    by_cases h1 : j = i
    · by_cases h2 : k = i
      · rw [h1, h2]
      · have eb := at_i h1 e3
        subst eb
        rw [List.getElem?_set_ne (Ne.symm h2)] at e2 e4
        exact absurd e4 (ne k ys h2 e2)
    · by_cases h2 : k = i
      · have eb := at_i h2 e4
        subst eb
        rw [List.getElem?_set_ne (Ne.symm h1)] at e1 e3
        exact absurd e3 (ne j xs h1 e1)
      · rw [List.getElem?_set_ne (Ne.symm h1)] at e1 e3
        rw [List.getElem?_set_ne (Ne.symm h2)] at e2 e4
        exact m.own j k xs ys b e1 e2 e3 e4
theorem s_setO {te : TE} {af : AFr} {i : Nat} (he : ∀ H0, AFrs W H0 te af) : AStm W (tAsg te (gName i)) (sSetO i af) := ⟨fun F0 H0 F1 H1 De Da σ env F H ok b m k h =>
  (he H0).run σ env F H _ _ b.ex.ok m h fun ds F' H' a vs p x n nf hA r => by
    have m' := m.ext b.ex.ok x
    refine k.nx _ _ F' H' (b.step ok x) (m'.setO i nf (b.ex.there ok n) hA r (b.ex.ok.pne n) fun j xs hj e z => ?_) p
    obtain ⟨ov, e1, b', ws, e2, _, _, hb, _⟩ := m.at_ j _ e
    rw [z] at e1
    cases e1
    cases e2
    rw [n] at hb
    cases hb⟩
/-- a list of the def's own is changed -/
theorem s_own {F0 F1 F : Addr → Prop} {H0 H1 H : Hp} {σ : L2.St} {env : List Sl} (ok : Okk W F0 H0) (b : Bse W F0 H0 F1 H1 F H) (m : Mt W H0 F H σ env) {i : Nat} {xs ys : List Dat} {a : Addr} {ws : List V} (e : env[i]? = some (.o xs)) (es : σ[i]? = some (some (.ref a)))
    (nf : ¬ F a) (n0 : H0 a = none) (np : ∀ p c, W.po = some (p, c) → a ≠ p ∧ a ≠ c) (r : RvAll W F H ws ys) : Bse W F0 H0 F1 H1 F (upd H a (.lst ws)) ∧ Mt W H0 F (upd H a (.lst ws)) σ (env.set i (.o ys)) := by
  have sb : Sub F H F (upd H a (.lst ws)) := fun c f => ⟨f, upd_ne (fun z => nf (by rw [← z]; exact f))⟩
  have okk : Okk W F (upd H a (.lst ws)) := ⟨fun c f => by
    rw [(sb c f).2]
    exact b.ex.ok.tr c f, fun p c ep => by
    obtain ⟨h1, h2, h3⟩ := b.ex.ok.po p c ep
    exact ⟨h1.mut (np p c ep).1 (np p c ep).2, h2, h3⟩⟩
  refine ⟨⟨⟨b.ex.up, b.ex.dn, fun c o hc npc => ?_, okk⟩, b.sb.trans sb⟩, ?_⟩
  · rw [upd_ne (ne_of_none hc n0)]
    exact b.ex.kp c o hc npc
  · have hl : i < env.length := (List.getElem?_eq_some_iff.mp e).1
    refine ⟨by rw [List.length_set, m.ln], fun j s ej => ?_, fun j k us vs c e1 e2 e3 e4 => ?_⟩
    · by_cases h : j = i
      · subst h
        rw [List.getElem?_set_self hl] at ej
        cases ej
        exact ⟨_, es, a, ws, rfl, nf, n0, upd_same, r.sub sb, np⟩
      · rw [List.getElem?_set_ne (Ne.symm h)] at ej
        obtain ⟨ov, eo, so⟩ := m.at_ j s ej
        refine ⟨ov, eo, ?_⟩
        cases s with
        | u => trivial
        | d x =>
          obtain ⟨v, ev, rv⟩ := so
          exact ⟨v, ev, rv.sub sb⟩
        | o us =>
          obtain ⟨c, vs, ec, nfc, n0c, hc, rc, npc⟩ := so
          subst ec
          have hca : c ≠ a := fun z => h (m.own j i us xs c ej e eo (by rw [z]; exact es))
          exact ⟨c, vs, rfl, nfc, n0c, by rw [upd_ne hca]; exact hc, rc.sub sb, npc⟩
    · have old : ∀ {j : Nat} {us : List Dat}, (env.set i (.o ys))[j]? = some (.o us) → ∃ us', env[j]? = some (.o us') := fun {j us} ej => by
        by_cases h : j = i
        · subst h
          exact ⟨_, e⟩
        · rw [List.getElem?_set_ne (Ne.symm h)] at ej
          exact ⟨_, ej⟩
      obtain ⟨_, e1⟩ := old e1
      obtain ⟨_, e2⟩ := old e2
      exact m.own j k _ _ c e1 e2 e3 e4
theorem own_at {F : Addr → Prop} {H0 H : Hp} {σ : L2.St} {env : List Sl} (m : Mt W H0 F H σ env) {i : Nat} {P : List Dat → Prop} (h : oQ2 (dAt env i) P) : ∃ xs a vs, P xs ∧ env[i]? = some (.o xs) ∧ σ[i]? = some (some (.ref a)) ∧ ¬ F a ∧ H0 a = none ∧ H a = some (.lst vs) ∧ RvAll W F H vs xs ∧ ∀ p c, W.po = some (p, c) → a ≠ p ∧ a ≠ c := by
  cases e : dAt env i with
  | o xs =>
    rw [e] at h
    have e1 := dAt_get e (fun z => by cases z)
    obtain ⟨ov, e2, a, vs, rfl, nf, n0, hA, r, np⟩ := m.at_ i _ e1
    exact ⟨xs, a, vs, h, e1, e2, nf, n0, hA, r, np⟩
  | u =>
    rw [e] at h
    exact h.elim
  | d x =>
    rw [e] at h
    exact h.elim
theorem own_ext {F F' : Addr → Prop} {H H' : Hp} {a : Addr} {vs : List V} {xs : List Dat} (ok : Okk W F H) (x : Ext W F H F' H') (nf : ¬ F a) (hA : H a = some (.lst vs)) (r : RvAll W F H vs xs) (np : ∀ p c, W.po = some (p, c) → a ≠ p ∧ a ≠ c) : ¬ F' a ∧ H' a = some (.lst vs) ∧ RvAll W F' H' vs xs := by
  refine ⟨fun f => ?_, x.kp a _ hA (fun p c e => (np p c e).1), r.sub (x.sub ok)⟩
  rcases x.dn a f with z | z
  · exact nf z
  · rw [z] at hA
    cases hA
theorem s_app {te : TE} {ea : AEx} {i : Nat} (he : ∀ H0, AExp W H0 te ea) : AStm W (tDrop (tBM W.K "list" rAppend (tVar i) (tCons te tNil))) (sApp i ea) := ⟨fun F0 H0 F1 H1 De Da σ env F H ok b m k h => by
  obtain ⟨xs, a, vs, ⟨hl, h⟩, e, es, nf, n0, hA, r, np⟩ := own_at m h
  refine ⟨_, es, .inl ⟨rfl, vs, SqL.of hA⟩, ?_⟩
  refine (he H0).run σ env F H _ _ b.ex.ok m h fun d F' H' v p x rv => ?_
  obtain ⟨nf', hA', r'⟩ := own_ext b.ex.ok x nf hA r np
  obtain ⟨b2, m2⟩ := s_own ok (b.step ok x) (m.ext b.ex.ok x) e es nf' n0 np (r'.append (.cons rv .nil))
  exact ⟨a, vs, v, rfl, rfl, hA', len_size (by rw [r.length]; omega), k.nx _ _ _ _ b2 m2 p⟩⟩
/-- the list in slot i is settled -/
theorem s_fz {i : Nat} (h1 : AStm W ts as) : AStm W ts (sFz i as) := ⟨fun F0 H0 F1 H1 De Da σ env F H ok b m k h => by
  obtain ⟨xs, a, vs, h, e, es, nf, n0, hA, r, np⟩ := own_at m h
  have nH0 : H0 a = none := n0
  have ext2 : Ext W F0 H0 (fun c => F c ∨ c = a) H := Ext.fz ok b.ex n0 hA
  have sb : Sub F H (fun c => F c ∨ c = a) H := sub_fz a
  refine h1.run F0 H0 F1 H1 De Da σ (env.set i (.d (.lst xs))) _ H ok ⟨ext2, b.sb.trans sb⟩ ?_ k h
  have hl : i < env.length := (List.getElem?_eq_some_iff.mp e).1
  refine ⟨by rw [List.length_set, m.ln], fun j s ej => ?_, fun j l us ws c e1 e2 e3 e4 => ?_⟩
  · by_cases h : j = i
    · subst h
      rw [List.getElem?_set_self hl] at ej
      cases ej
      exact ⟨_, es, _, rfl, .lst (.inr rfl) hA (r.sub sb)⟩
    · rw [List.getElem?_set_ne (Ne.symm h)] at ej
      obtain ⟨ov, eo, so⟩ := m.at_ j s ej
      refine ⟨ov, eo, ?_⟩
      cases s with
      | u => trivial
      | d x =>
        obtain ⟨v, ev, rv⟩ := so
        exact ⟨v, ev, rv.sub sb⟩
      | o us =>
        obtain ⟨c, vs, ec, nfc, n0c, hc, rc, npc⟩ := so
        subst ec
        exact ⟨c, vs, rfl, fun f => by
          rcases f with f | f
          · exact nfc f
          · exact h (m.own j i us xs c ej e eo (by rw [f]; exact es)), n0c, hc, rc.sub sb, npc⟩
  · have ne : ∀ {j : Nat} {us : List Dat}, (env.set i (.d (.lst xs)))[j]? = some (.o us) → j ≠ i := fun {j us} ej z => by
      subst z
      rw [List.getElem?_set_self hl] at ej
      cases ej
    have a1 := ne e1
    have a2 := ne e2
    rw [List.getElem?_set_ne (Ne.symm a1)] at e1
    rw [List.getElem?_set_ne (Ne.symm a2)] at e2
    exact m.own j l us ws c e1 e2 e3 e4⟩
theorem s_aug {te : TE} {ea : AEx} {i : Nat} {r : TIp} {f : Dat → Dat → (Dat → Prop) → Prop} (hr : ROk W Rv Rv Rv r f) (he : ∀ H0, AExp W H0 te ea) : AStm W (tAug i te r) (sAug i ea f) := ⟨fun F0 H0 F1 H1 De Da σ env F H ok b m k h => by
  have h : dQ (dAt env i) _ := h
  cases e : dAt env i with
  | d x =>
    rw [e] at h
    obtain ⟨_, e1, v, rfl, rx⟩ := m.at_ i _ (dAt_get e (fun z => by cases z))
    refine ⟨v, e1, ?_⟩
    refine (he H0).run σ env F H _ _ b.ex.ok m h fun d F' H' u p x ru => ?_
    refine hr F' H' v u _ d _ _ x.ok (rx.sub (x.sub b.ex.ok)) ru p fun z F2 H2 w pz x2 rz => ?_
    have b' := (b.step ok x).step ok x2
    exact k.nx _ _ F2 H2 b' (((m.ext b.ex.ok x).ext x.ok x2).setD i rz) pz
  | u =>
    rw [e] at h
    exact h.elim
  | o xs =>
    rw [e] at h
    exact h.elim⟩
theorem s_for {wi : TI} {ai : AFr} {g : TG} {ag : ATg} {vs : List Nat} (hi : ∀ H0, AIter W H0 wi ai) (hg : ∀ H0, ATgt W H0 vs g ag) (hb : AStm W ts as) : AStm W (tFor wi g ts) (sFor ai ag as) := ⟨fun F0 H0 F1 H1 De Da σ env F H ok b m k h =>
  (hi H0).run σ env F H _ _ b.ex.ok m h fun ds Fa Ha J p1 x1 itk => by
  have b1 := b.step ok x1
  have m1 := m.ext b.ex.ok x1
  refine ⟨fun i n σ' H' => n + i = ds.length ∧ ∃ env' F', Bse W F0 H0 F1 H1 F' H' ∧ Sub Fa Ha F' H' ∧ Mt W H0 F' H' σ' env' ∧ forA ag as Da (ds.drop i) env', ⟨ds.length, rfl, env, Fa, b1, Sub.refl Fa Ha, m1, p1⟩, ?_⟩
  rintro i n σ2 H2 ⟨hn, env2, F2, b2, s2, m2, p2⟩
  by_cases hlt : i < ds.length
  · have hd : ds[i]? = some ds[i] := List.getElem?_eq_getElem hlt
    obtain ⟨go, yl⟩ := itk.it F2 H2 b2.ex.ok s2 i _ hd
    rw [List.drop_eq_getElem_cons hlt] at p2
    refine .inr ⟨go, fun σ' H' => ∃ env' F', Bse W F0 H0 F1 H1 F' H' ∧ Sub Fa Ha F' H' ∧ Mt W H0 F' H' σ' env' ∧ forA ag as Da (ds.drop (i + 1)) env',
      fun σ' H' ⟨env', F', rest⟩ => ⟨n - 1, by omega, by omega, env', F', rest⟩, fun x H3 y => ?_⟩
    obtain ⟨F3, x3, rx⟩ := yl x H3 y
    have b3 := b2.step ok x3
    have m3 := m2.ext b2.ex.ok x3
    have s3 := s2.trans (x3.sub b2.ex.ok)
    refine (hg H0).run x _ σ2 env2 F3 H3 _ _ x3.ok m3 rx p2 fun env4 σ4 p4 m4 _ => ?_
    exact hb.run F0 H0 F3 H3 _ { Da with nx := forA ag as Da (ds.drop (i + 1)), ct := forA ag as Da (ds.drop (i + 1)), bk := Da.nx } σ4 env4 F3 H3 ok ⟨b3.ex, Sub.refl _ _⟩ m4
      ⟨fun σ env F H b m h => ⟨env, F, ⟨b.ex, b3.sb.trans b.sb⟩, s3.trans b.sb, m, h⟩, fun v d F H b => k.rt v d F H ⟨b.ex, b3.sb.trans b.sb⟩, fun σ env F H b => k.nx σ env F H ⟨b.ex, b3.sb.trans b.sb⟩,
        fun σ env F H b m h => ⟨env, F, ⟨b.ex, b3.sb.trans b.sb⟩, s3.trans b.sb, m, h⟩⟩ p4
  · have e : i = ds.length := by omega
    subst e
    rw [List.drop_length] at p2
    exact .inl ⟨itk.done F2 H2 b2.ex.ok s2, k.nx σ2 env2 F2 H2 b2 m2 p2⟩⟩
end
/-! ### a def -/
theorem mt_start {W : Wd} {F : Addr → Prop} {H : Hp} : ∀ {N : List Str} {vs : List V} {ds : List Dat}, RvAll W F H vs ds → ds.length ≤ N.length → Mt W H F H (L2.start N vs) (ds.map Sl.d ++ List.replicate (N.length - ds.length) .u) := fun {N vs ds} r hl => by
  have lv := r.length
  unfold L2.start
  rw [lv]
  refine ⟨by simp [lv], fun j s e => ?_, fun j k us ws a e1 => ?_⟩
  · by_cases h : j < ds.length
    · rw [List.getElem?_append_left (by rw [List.length_map]; exact h), List.getElem?_map] at e
      rw [List.getElem?_append_left (by rw [List.length_map]; omega), List.getElem?_map]
      cases q : ds[j]? with
      | none =>
        rw [q] at e
        cases e
      | some d =>
        rw [q] at e
        cases e
        obtain ⟨v, e1, rv⟩ := r.get q
        rw [e1]
        exact ⟨_, rfl, v, rfl, rv⟩
    · rw [List.getElem?_append_right (by rw [List.length_map]; omega), List.length_map] at e
      rw [List.getElem?_append_right (by rw [List.length_map]; omega), List.length_map, lv]
      obtain ⟨hb, e⟩ := List.getElem?_eq_some_iff.mp e
      rw [List.getElem_replicate] at e
      rw [List.length_replicate] at hb
      subst e
      exact ⟨none, by rw [List.getElem?_eq_getElem (by rw [List.length_replicate]; exact hb), List.getElem_replicate], trivial⟩
  · exfalso
    have hm := List.mem_of_getElem? e1
    rcases List.mem_append.mp hm with h | h
    · obtain ⟨_, _, z⟩ := List.mem_map.mp h
      cases z
    · have := (List.mem_replicate.mp h).2
      cases this
theorem sp_len {K : PySem.W.Frag} {ca : Nat → Addr} {asp : ASp} {n : Nat} (hn : ∀ ds P, asp ds P → ds.length = n) {vs : List V} {H : Hp} {Q : VK} {E : XK} (h : toSp K ca asp vs H Q E) : vs.length = n := by
  obtain ⟨po, F, ds, P, ok, r, a, k⟩ := h
  rw [r.length]
  exact hn ds P a
theorem sp_lenF {K : PySem.W.Frag} {ca : Nat → Addr} {asp : ASpF} {n : Nat} (hn : ∀ ds P, asp ds P → ds.length = n) {vs : List V} {H : Hp} {Q : VK} {E : XK} (h : toSpF K ca asp vs H Q E) : vs.length = n := by
  obtain ⟨po, F, ds, P, ok, r, a, k⟩ := h
  rw [r.length]
  exact hn ds P a
theorem fn_run {K : PySem.W.Frag} {ca : Nat → Addr} {asp : ASp} {N : List Str} {vs : List V} {H : Hp} {Q : VK} {E : XK} {ts : TS} {as : ASt} (h : toSp K ca asp vs H Q E) (hs : ∀ po, AStm ⟨K, ca, po⟩ ts as) (hl : ∀ ds P, asp ds P → ds.length ≤ N.length)
    (hb : ∀ ds P, asp ds P → as { nx := fun _ => P .non, rt := P } (ds.map Sl.d ++ List.replicate (N.length - ds.length) .u)) : ts { nx := fun _ H' => Q .non H', rt := Q } (L2.start N vs) H := by
  obtain ⟨po, F, ds, P, ok, r, a, k⟩ := h
  exact (hs po).run F H F H _ { nx := fun _ => P .non, rt := P } _ _ F H ok ⟨.refl ok, Sub.refl F H⟩ (mt_start r (hl ds P a))
    ⟨fun σ env F' H' b m p => k .non F' H' .non p b.ex .non, fun v d F' H' b r p => k d F' H' v p b.ex r, fun _ _ _ _ _ _ p => p.elim, fun _ _ _ _ _ _ p => p.elim⟩ (hb ds P a)

/-! ### calls of built-in things -/
/-- a call with one argument, as f on data -/
def UOk (W : Wd) (S : Rel) (r : List V → Hp → VK → Prop) (f : Dat → (Dat → Prop) → Prop) : Prop :=
  ∀ (F : Addr → Prop) (H : Hp) (x : V) (d : Dat) (Q : VK) (P : Dat → Prop), Okk W F H → S W F H x d → f d P → (∀ z F' H' v, P z → Ext W F H F' H' → Rv W F' H' v z → Q v H') → r [x] H Q
/-- .. that makes a list -/
def UFr (W : Wd) (S : Rel) (r : List V → Hp → VK → Prop) (f : Dat → (List Dat → Prop) → Prop) : Prop :=
  ∀ (F : Addr → Prop) (H : Hp) (x : V) (d : Dat) (Q : VK) (P : List Dat → Prop), Okk W F H → S W F H x d → f d P →
    (∀ ds F' H' a vs, P ds → Ext W F H F' H' → H a = none → ¬ F' a → H' a = some (.lst vs) → RvAll W F' H' vs ds → Q (.ref a) H') → r [x] H Q
def a1F (f : Dat → (List Dat → Prop) → Prop) (ea : AEx) : AFr := fun env P => ea env fun x => f x P
/-- the items of a list or a tuple -/
def sQ : Dat → (List Dat → Prop) → Prop
  | .lst xs, P => P xs
  | .tup xs, P => P xs
  | _, _ => False
theorem Pk.seq {W : Wd} {F : Addr → Prop} {H : Hp} {v : V} {d : Dat} {P : List Dat → Prop} (k : Okk W F H) (r : Pk W F H v d) (q : sQ d P) : ∃ a vs xs, v = .ref a ∧ (SqL W.K H a vs ∨ SqT W.K H a vs) ∧ RvAll W F H vs xs ∧ P xs ∧ (d = .lst xs ∧ SqL W.K H a vs ∨ d = .tup xs ∧ SqT W.K H a vs) := by
  cases d with
  | lst xs =>
    obtain ⟨a, vs, rfl, h, _, rr⟩ := r.lst k
    exact ⟨a, vs, xs, rfl, .inl (SqL.of h), rr, q, .inl ⟨rfl, SqL.of h⟩⟩
  | tup xs =>
    cases r with
    | rv r =>
      cases r with
      | tup h rr => exact ⟨_, _, xs, rfl, .inr h.sq, rr, q, .inr ⟨rfl, h.sq⟩⟩
  | _ => exact q.elim
section
variable {W : Wd} {H0 : Hp} {te ta tb : TE} {ae ea eb : AEx} {S : Rel}
theorem a_b1 {r : List V → Hp → VK → Prop} {f : Dat → (Dat → Prop) → Prop} (hr : UOk W S r f) (ha : AEg S W H0 te ea) : AExp W H0 (tCB r (tCons te tNil)) (a1 f ea) :=
  ⟨fun σ env F H Q P ok m q k => ha.run σ env F H _ _ ok m q fun d F1 H1 v p1 x1 r1 => hr F1 H1 v d Q P x1.ok r1 p1 fun z F2 H2 w p2 x2 r2 => k z F2 H2 w p2 (x1.trans ok x2) r2⟩
theorem a_b1F {r : List V → Hp → VK → Prop} {f : Dat → (List Dat → Prop) → Prop} (hr : UFr W S r f) (ha : AEg S W H0 te ea) : AFrs W H0 (tCB r (tCons te tNil)) (a1F f ea) :=
  ⟨fun σ env F H Q P ok m q k => ha.run σ env F H _ _ ok m q fun d F1 H1 v p1 x1 r1 => hr F1 H1 v d Q P x1.ok r1 p1 fun ds F2 H2 a vs p2 x2 n nf h r => k ds F2 H2 a vs p2 (x1.trans ok x2) (x1.there ok n) nf h r⟩
/-- two arguments -/
theorem a_b2 {r : List V → Hp → VK → Prop} {f : Dat → Dat → (Dat → Prop) → Prop} (hr : ROk W Rv Rv Rv (fun x y H Q => r [x, y] H Q) f) (ha : AExp W H0 ta ea) (hb : AExp W H0 tb eb) : AExp W H0 (tCB r (tCons ta (tCons tb tNil))) (a2 f ea eb) :=
  ⟨fun σ env F H Q P ok m q k => ha.run σ env F H _ _ ok m q fun d F1 H1 v p1 x1 r1 => hb.run σ env F1 H1 _ _ x1.ok (m.ext ok x1) p1 fun e F2 H2 u p2 x2 r2 =>
    hr F2 H2 v u d e Q P x2.ok (r1.sub (x2.sub x1.ok)) r2 p2 fun z F3 H3 w p3 x3 r3 => k z F3 H3 w p3 ((x1.trans ok x2).trans ok x3) r3⟩
def kLen : Dat → (Dat → Prop) → Prop := fun d P => sQ d fun xs => P (.int (xs.length : Nat))
theorem u_len : UOk W Pk (rLen W.K) kLen := fun F H x d Q P ok r q k => by
  obtain ⟨a, vs, xs, rfl, h, rr, p, _⟩ := r.seq ok q
  exact ⟨a, vs, rfl, h, by rw [rr.length]; exact k _ F H _ p (.refl ok) (.int _)⟩
theorem u_listOf : UFr W Pk (rListOf W.K) sQ := fun F H x d Q P ok r q k => by
  obtain ⟨a, vs, xs, rfl, h, rr, p, _⟩ := r.seq ok q
  refine ⟨a, vs, rfl, h, fun l n => ?_⟩
  have x2 : Ext W F H F (upd H l (.lst vs)) := Ext.lay ok n
  exact k xs F _ l vs p x2 n (fun f => ok.tr l f n) upd_same (rr.sub (x2.sub ok))
def kTupOf : Dat → (Dat → Prop) → Prop := fun d P => sQ d fun xs => P (.tup xs)
theorem u_tupOf : UOk W Pk (rTupF W.K) kTupOf := fun F H x d Q P ok r q k => by
  cases d with
  | lst xs =>
    obtain ⟨a, vs, rfl, h, _, rr⟩ := r.lst ok
    refine ⟨a, vs, rfl, .inl ⟨SqL.of h, fun l o n tp => ?_⟩⟩
    have x2 : Ext W F H (fun b => F b ∨ b = l) (upd H l o) := Ext.new ok n
    exact k (.tup xs) _ _ _ q x2 (.tup ⟨.inr rfl, o, upd_same, tp⟩ (rr.sub (x2.sub ok)))
  | tup xs =>
    cases r with
    | rv r =>
      cases r with
      | tup h rr => exact ⟨_, _, rfl, .inr ⟨h.sq, k (.tup xs) F H _ q (.refl ok) (.tup h rr)⟩⟩
  | _ => exact q.elim
def kSum : Dat → (Dat → Prop) → Prop
  | .lst xs, P => ∃ ns : List Int, xs = ns.map Dat.int ∧ P (.int ns.sum)
  | _, _ => False
theorem u_sum : UOk W Pk (rSum W.K) kSum := fun F H x d Q P ok r q k => by
  cases d with
  | lst xs =>
    obtain ⟨a, vs, rfl, h, _, rr⟩ := r.lst ok
    obtain ⟨ns, rfl, q⟩ := q
    have e := rr.ints
    subst e
    exact ⟨a, ns, rfl, SqL.of h, k _ F H _ q (.refl ok) (.int _)⟩
  | _ => exact q.elim
def kAll : Dat → (Dat → Prop) → Prop
  | .lst xs, P => ∃ bs : List Bool, xs = bs.map Dat.bl ∧ P (.bl (bs.all id))
  | _, _ => False
theorem u_all : UOk W Pk (rAll W.K) kAll := fun F H x d Q P ok r q k => by
  cases d with
  | lst xs =>
    obtain ⟨a, vs, rfl, h, _, rr⟩ := r.lst ok
    obtain ⟨ns, rfl, q⟩ := q
    have e := rr.bls
    subst e
    exact ⟨a, ns, rfl, SqL.of h, k _ F H _ q (.refl ok) (.bl _)⟩
  | _ => exact q.elim
def kAny : Dat → (Dat → Prop) → Prop
  | .lst xs, P => ∃ bs : List Bool, xs = bs.map Dat.bl ∧ P (.bl (bs.any id))
  | _, _ => False
theorem u_any : UOk W Pk (rAny W.K) kAny := fun F H x d Q P ok r q k => by
  cases d with
  | lst xs =>
    obtain ⟨a, vs, rfl, h, _, rr⟩ := r.lst ok
    obtain ⟨ns, rfl, q⟩ := q
    have e := rr.bls
    subst e
    exact ⟨a, ns, rfl, SqL.of h, k _ F H _ q (.refl ok) (.bl _)⟩
  | _ => exact q.elim
def kInt : Dat → (Dat → Prop) → Prop
  | .int i, P => P (.int i)
  | .bl b, P => P (.int (if b then 1 else 0))
  | _, _ => False
theorem u_int : UOk W Rv (fun xs H Q => (∃ i, xs = [.int i] ∧ Q (.int i) H) ∨ ∃ k, xs = [.bl k] ∧ Q (.int (if k = true then 1 else 0)) H) kInt := fun F H x d Q P ok r q k => by
  cases r with
  | int i => exact .inl ⟨i, rfl, k _ F H _ q (.refl ok) (.int _)⟩
  | bl b => exact .inr ⟨b, rfl, k _ F H _ q (.refl ok) (.int _)⟩
  | _ => exact q.elim
def kStr : Dat → (Dat → Prop) → Prop
  | .int i, P => i.natAbs < 1000000 ∧ P (.str (toString i))
  | _, _ => False
theorem log_small {n : Nat} (h : n < 1000000) : n.log2 < 1920 := by
  by_cases z : n = 0
  · subst z
    decide
  · exact (Nat.log2_lt z).mpr (Nat.lt_trans h (Nat.lt_of_lt_of_le (show 1000000 < 2 ^ 20 by decide) (Nat.pow_le_pow_right (by decide) (by decide))))
theorem u_str : UOk W Rv (fun xs H Q => ∃ i, xs = [.int i] ∧ i.natAbs.log2 < 1920 ∧ Q (.str (toString i)) H) kStr := fun F H x d Q P ok r q k => by
  cases r with
  | int i => exact ⟨i, rfl, log_small q.1, k _ F H _ q.2 (.refl ok) (.str _)⟩
  | _ => exact q.elim
def kMax2 : Dat → Dat → (Dat → Prop) → Prop
  | .int i, .int j, P => P (.int (if j > i then j else i))
  | _, _, _ => False
theorem rok_max2 : ROk W Rv Rv Rv (fun x y H Q => ∃ i j, [x, y] = [V.int i, .int j] ∧ Q (.int (if j > i then j else i)) H) kMax2 := fun F H x y d e Q P ok r1 r2 q k => by
  cases r1 <;> cases r2 <;> first | exact q.elim | exact ⟨_, _, rfl, k _ F H _ q (.refl ok) (.int _)⟩
/-! texts -/
def kCatS : Dat → Dat → (Dat → Prop) → Prop
  | .str i, .str j, P => i.length + j.length ≤ 100000 ∧ P (.str (i ++ j))
  | _, _, _ => False
theorem rok_catS : ROk W Rv Rv Rv (fun x y H Q => ∃ i j, x = .str i ∧ y = .str j ∧ i.length + j.length ≤ sizeLine ∧ Q (.str (i ++ j)) H) kCatS := fun F H x y d e Q P ok r1 r2 q k => by
  cases r1 <;> cases r2 <;> first | exact q.elim | exact ⟨_, _, rfl, rfl, Nat.le_of_lt (len_size q.1), k _ F H _ q.2 (.refl ok) (.str _)⟩
/-! lists, tuples -/
def kCatT : Dat → Dat → (Dat → Prop) → Prop
  | .tup xs, .tup ys, P => xs.length + ys.length ≤ 100000 ∧ P (.tup (xs ++ ys))
  | _, _, _ => False
theorem rok_catT : ROk W Rv Rv Rv (rCatF W.K) kCatT := fun F H x y d e Q P ok r1 r2 q k => by
  cases r1 with
  | @tup a1 v1 d1 h1 s1 =>
    cases r2 with
    | @tup a2 v2 d2 h2 s2 =>
      obtain ⟨sz, q⟩ := q
      refine ⟨_, _, _, _, rfl, rfl, h1.sq, h2.sq, Nat.le_of_lt (len_size (by rw [s1.length, s2.length]; exact sz)), fun e => ?_, fun _ e => ?_, fun _ _ a o n tp => ?_⟩
      · subst e
        cases s1
        exact k _ F H _ q (.refl ok) (.tup h2 s2)
      · subst e
        cases s2
        rw [List.append_nil] at q
        exact k _ F H _ q (.refl ok) (.tup h1 s1)
      · have x2 : Ext W F H (fun b => F b ∨ b = a) (upd H a o) := Ext.new ok n
        exact k _ _ _ _ q x2 (.tup ⟨.inr rfl, o, upd_same, tp⟩ ((s1.append s2).sub (x2.sub ok)))
    | _ => exact q.elim
  | _ => exact q.elim
/-- an operation that makes a list -/
def RFr (W : Wd) (S1 S2 : Rel) (r : L2.R2) (f : Dat → Dat → (List Dat → Prop) → Prop) : Prop :=
  ∀ (F : Addr → Prop) (H : Hp) (x y : V) (d e : Dat) (Q : VK) (P : List Dat → Prop), Okk W F H → S1 W F H x d → S2 W F H y e → f d e P →
    (∀ ds F' H' a vs, P ds → Ext W F H F' H' → H a = none → ¬ F' a → H' a = some (.lst vs) → RvAll W F' H' vs ds → Q (.ref a) H') → r x y H Q
def a2F (f : Dat → Dat → (List Dat → Prop) → Prop) (ea eb : AEx) : AFr := fun env P => ea env fun x => eb env fun y => f x y P
theorem a_opF {S1 S2 : Rel} {r : L2.R2} {f : Dat → Dat → (List Dat → Prop) → Prop} (pr : Pst S1) (hr : RFr W S1 S2 r f) (ha : AEg S1 W H0 ta ea) (hb : AEg S2 W H0 tb eb) : AFrs W H0 (tOp r ta tb) (a2F f ea eb) :=
  ⟨fun σ env F H Q P ok m q k => ha.run σ env F H _ _ ok m q fun d F1 H1 v p1 x1 r1 => hb.run σ env F1 H1 _ _ x1.ok (m.ext ok x1) p1 fun e F2 H2 u p2 x2 r2 =>
    hr F2 H2 v u d e Q P x2.ok (pr.run x1.ok x2 r1) r2 p2 fun ds F3 H3 a vs p3 x3 n nf h r => k ds F3 H3 a vs p3 ((x1.trans ok x2).trans ok x3) ((x1.trans ok x2).there ok n) nf h r⟩
def kCatL : Dat → Dat → (List Dat → Prop) → Prop
  | .lst xs, .lst ys, P => xs.length + ys.length ≤ 100000 ∧ P (xs ++ ys)
  | _, _, _ => False
theorem rok_catL : RFr W Pk Pk rCat kCatL := fun F H x y d e Q P ok r1 r2 q k => by
  cases d with
  | lst xs =>
    cases e with
    | lst ys =>
      obtain ⟨a, vs, rfl, h1, _, s1⟩ := r1.lst ok
      obtain ⟨b, ws, rfl, h2, _, s2⟩ := r2.lst ok
      refine ⟨a, b, vs, ws, rfl, rfl, h1, h2, Nat.le_of_lt (len_size (by rw [s1.length, s2.length]; exact q.1)), fun l n => ?_⟩
      have x2 : Ext W F H F (upd H l (.lst (vs ++ ws))) := Ext.lay ok n
      exact k _ F _ l _ q.2 x2 n (fun f => ok.tr l f n) upd_same ((s1.append s2).sub (x2.sub ok))
    | _ => exact q.elim
  | _ => exact q.elim
/-! slices -/
abbrev AOp := List Sl → (Option Int → Prop) → Prop
structure AOpt (W : Wd) (H0 : Hp) (t : TO) (ao : AOp) : Prop where
  run : ∀ (σ : L2.St) (env : List Sl) (F : Addr → Prop) (H : Hp) (Q : Option Int → Hp → Prop) (P : Option Int → Prop), Okk W F H → Mt W H0 F H σ env → ao env P → (∀ o F' H', P o → Ext W F H F' H' → Q o H') → t σ H Q
def aoN : AOp := fun _ P => P none
def aoS (ea : AEx) : AOp := fun env P => ea env fun x => match x with
  | .int i => P (some i)
  | _ => False
theorem ao_none : AOpt W H0 tNoPart aoN := ⟨fun σ env F H Q P ok m q k => k none F H q (.refl ok)⟩
theorem ao_some (h : AExp W H0 te ea) : AOpt W H0 (tPart te) (aoS ea) := ⟨fun σ env F H Q P ok m q k => h.run σ env F H _ _ ok m q fun d F1 H1 v p1 x1 r1 => by
  cases r1 with
  | int i => exact ⟨i, rfl, k _ F1 H1 p1 x1⟩
  | _ => exact p1.elim⟩
def cutD (xs : List Dat) (lo hi : Option Int) : List Dat := (xs.drop (HT.sIx xs.length 0 lo)).take (HT.sIx xs.length xs.length hi - HT.sIx xs.length 0 lo)
theorem RvAll.cut {F : Addr → Prop} {H : Hp} {vs : List V} {xs : List Dat} (r : RvAll W F H vs xs) (lo hi : Option Int) : RvAll W F H (cutV vs lo hi) (cutD xs lo hi) := by
  unfold cutV cutD
  rw [r.length]
  exact (r.drop _).take _
theorem cutD_all (xs : List Dat) (lo hi : Option Int) (h1 : HT.sIx xs.length 0 lo = 0) (h2 : HT.sIx xs.length xs.length hi = xs.length) : cutD xs lo hi = xs := by
  unfold cutD
  rw [h1, h2]
  simp
def aSlF (ea : AEx) (al ah : AOp) : AFr := fun env P => ea env fun x => al env fun lo => ah env fun hi => lQ x fun xs => P (cutD xs lo hi)
def aSlT (ea : AEx) (al ah : AOp) : AEx := fun env P => ea env fun x => al env fun lo => ah env fun hi => tQ x fun xs => P (.tup (cutD xs lo hi))
theorem a_slL {tl th : TO} {al ah : AOp} (ha : AEg Pk W H0 te ea) (hl : AOpt W H0 tl al) (hh : AOpt W H0 th ah) : AFrs W H0 (tSl (rSlL W.K) te tl th) (aSlF ea al ah) :=
  ⟨fun σ env F H Q P ok m q k => ha.run σ env F H _ _ ok m q fun d F1 H1 v p1 x1 r1 => hl.run σ env F1 H1 _ _ x1.ok (m.ext ok x1) p1 fun lo F2 H2 p2 x2 => hh.run σ env F2 H2 _ _ x2.ok (m.ext ok (x1.trans ok x2)) p2 fun hi F3 H3 p3 x3 => by
    have r3 := pst_pk.run x2.ok x3 (pst_pk.run x1.ok x2 r1)
    cases d with
    | lst xs =>
      obtain ⟨a, vs, rfl, h, _, rr⟩ := r3.lst x3.ok
      refine ⟨a, vs, rfl, SqL.of h, fun l n => ?_⟩
      have x4 : Ext W F3 H3 F3 (upd H3 l (.lst (cutV vs lo hi))) := Ext.lay x3.ok n
      have x13 := (x1.trans ok x2).trans ok x3
      exact k _ F3 _ l _ p3 (x13.trans ok x4) (x13.there ok n) (fun f => x3.ok.tr l f n) upd_same ((rr.cut lo hi).sub (x4.sub x3.ok))
    | _ => exact p3.elim⟩
theorem a_slT {tl th : TO} {al ah : AOp} (ha : AExp W H0 te ea) (hl : AOpt W H0 tl al) (hh : AOpt W H0 th ah) : AExp W H0 (tSl (rSlF W.K) te tl th) (aSlT ea al ah) :=
  ⟨fun σ env F H Q P ok m q k => ha.run σ env F H _ _ ok m q fun d F1 H1 v p1 x1 r1 => hl.run σ env F1 H1 _ _ x1.ok (m.ext ok x1) p1 fun lo F2 H2 p2 x2 => hh.run σ env F2 H2 _ _ x2.ok (m.ext ok (x1.trans ok x2)) p2 fun hi F3 H3 p3 x3 => by
    have r3 := (r1.sub (x2.sub x1.ok)).sub (x3.sub x2.ok)
    have x13 := (x1.trans ok x2).trans ok x3
    cases r3 with
    | @tup a vs xs h rr =>
      refine ⟨a, vs, rfl, h.sq, fun ⟨h1, h2⟩ => ?_, fun _ l o n tp => ?_⟩
      · rw [rr.length] at h1 h2
        have p3 : P (.tup (cutD xs lo hi)) := p3
        rw [cutD_all xs lo hi h1 h2] at p3
        exact k _ F3 H3 _ p3 x13 (.tup h rr)
      · have x4 : Ext W F3 H3 (fun b => F3 b ∨ b = l) (upd H3 l o) := Ext.new x3.ok n
        exact k _ _ _ _ p3 (x13.trans ok x4) (.tup ⟨.inr rfl, o, upd_same, tp⟩ ((rr.cut lo hi).sub (x4.sub x3.ok)))
    | _ => exact p3.elim⟩
end

/-! ### walks over lists and tuples alike, pairs, numbered items -/
theorem kQ_sub {W : Wd} {F F2 : Addr → Prop} {H H2 : Hp} {k : Bool} {a : Addr} {vs : List V} (h : if k = true then FzT W F H a vs else F a ∧ H a = some (.lst vs)) (s : Sub F H F2 H2) : SqK k W.K H2 a vs := by
  cases k with
  | true => exact ((show FzT W F H a vs from h).sub s).sq
  | false =>
    have h : F a ∧ H a = some (.lst vs) := h
    exact SqL.of ((s a h.1).2.trans h.2)
theorem kQ_rv {W : Wd} {F : Addr → Prop} {H : Hp} {k : Bool} {v : V} {d : Dat} {P : List Dat → Prop} (r : Rv W F H v d) (q : kQ k d P) : ∃ a vs xs, v = .ref a ∧ (if k = true then FzT W F H a vs else F a ∧ H a = some (.lst vs)) ∧ RvAll W F H vs xs ∧ P xs := by
  cases k with
  | true =>
    cases r with
    | tup h rr => exact ⟨_, _, _, rfl, h, rr, q⟩
    | _ => exact (show False from q).elim
  | false =>
    cases r with
    | lst f h rr => exact ⟨_, _, _, rfl, ⟨f, h⟩, rr, q⟩
    | _ => exact (show False from q).elim
/-- pairs, as far as both go -/
def zipD : List Dat → List Dat → List Dat
  | x :: xs, y :: ys => .tup [x, y] :: zipD xs ys
  | _, _ => []
theorem zipD_get : ∀ (xs ys : List Dat) (i : Nat) (d : Dat), (zipD xs ys)[i]? = some d → ∃ x y, xs[i]? = some x ∧ ys[i]? = some y ∧ d = .tup [x, y]
  | [], _, i, d, e => by simp [zipD] at e
  | _ :: _, [], i, d, e => by simp [zipD] at e
  | x :: xs, y :: ys, 0, d, e => by
    simp only [zipD, List.getElem?_cons_zero, Option.some.injEq] at e
    exact ⟨x, y, rfl, rfl, e.symm⟩
  | x :: xs, y :: ys, i + 1, d, e => by
    simp only [zipD, List.getElem?_cons_succ] at e ⊢
    exact zipD_get xs ys i d e
theorem zipD_len : ∀ xs ys : List Dat, (zipD xs ys).length ≤ xs.length ∧ (zipD xs ys).length ≤ ys.length ∧ ((zipD xs ys).length = xs.length ∨ (zipD xs ys).length = ys.length)
  | [], _ => by simp [zipD]
  | _ :: _, [] => by simp [zipD]
  | x :: xs, y :: ys => by
    have := zipD_len xs ys
    simp only [zipD, List.length_cons]
    omega
def enumD : Nat → List Dat → List Dat
  | _, [] => []
  | n, x :: xs => .tup [.int (n : Nat), x] :: enumD (n + 1) xs
theorem enumD_get : ∀ (xs : List Dat) (n i : Nat) (d : Dat), (enumD n xs)[i]? = some d → ∃ x, xs[i]? = some x ∧ d = .tup [.int ((n + i : Nat) : Int), x]
  | [], n, i, d, e => by simp [enumD] at e
  | x :: xs, n, 0, d, e => by
    simp only [enumD, List.getElem?_cons_zero, Option.some.injEq] at e
    exact ⟨x, rfl, e.symm⟩
  | x :: xs, n, i + 1, d, e => by
    simp only [enumD, List.getElem?_cons_succ] at e ⊢
    obtain ⟨y, h1, h2⟩ := enumD_get xs (n + 1) i d e
    exact ⟨y, h1, by rw [h2, Nat.add_right_comm, Nat.add_assoc]⟩
theorem enumD_len : ∀ (xs : List Dat) (n : Nat), (enumD n xs).length = xs.length
  | [], _ => rfl
  | _ :: xs, n => congrArg (· + 1) (enumD_len xs (n + 1))
def iZipA (k1 k2 : Bool) (aa : AFr) : AFr := fun env P => aa env fun ds => match ds with
  | [x, y] => kQ k1 x fun xs => kQ k2 y fun ys => P (zipD xs ys)
  | _ => False
def iEnA (k : Bool) (aa : AFr) : AFr := fun env P => aa env fun ds => match ds with
  | [x] => kQ k x fun xs => P (enumD 0 xs)
  | _ => False
section
variable {W : Wd} {H0 : Hp} {te ta tb : TE} {ae ea eb : AEx}
theorem i_K {k : Bool} (ha : AExp W H0 ta ea) : AIter W H0 (iK k W.K ta) (iSeq (kQ k) ea) := ⟨fun σ env F H R P ok m q kk => ha.run σ env F H _ _ ok m q fun d F1 H1 v p1 x1 r1 => by
  cases k with
  | true =>
    cases r1 with
    | tup h r => exact ⟨_, rfl, ⟨_, h.sq⟩, kk _ F1 H1 _ p1 x1 (it_tup h r)⟩
    | _ => exact (show False from p1).elim
  | false =>
    cases r1 with
    | lst f h r => exact ⟨_, rfl, ⟨_, SqL.of h⟩, kk _ F1 H1 _ p1 x1 (it_list f h r)⟩
    | _ => exact (show False from p1).elim⟩
theorem i_zip {k1 k2 : Bool} {t : TA} {aa : AFr} (h : AArg W H0 2 t aa) : AIter W H0 (iZipF k1 k2 W.K t) (iZipA k1 k2 aa) := ⟨fun σ env F H R P ok m q kk => h.run σ env F H _ _ ok m q fun ds F1 H1 vs p1 x1 r1 l1 => by
  match ds, l1, p1, r1 with
  | [d, e], _, p1, .cons r1 (.cons r2 .nil) =>
    have p1 : kQ k1 d fun xs => kQ k2 e fun ys => P (zipD xs ys) := p1
    obtain ⟨a, us, xs, rfl, ha, ra, p1⟩ := kQ_rv r1 p1
    obtain ⟨b, ws, ys, rfl, hb, rb, p1⟩ := kQ_rv r2 p1
    have qa := kQ_sub ha (Sub.refl _ _)
    have qb := kQ_sub hb (Sub.refl _ _)
    refine ⟨a, b, us, ws, rfl, qa, qb, kk _ F1 H1 _ p1 x1 ⟨fun F2 H2 ok2 s i z e => ?_, fun F2 H2 ok2 s => ?_⟩⟩
    · obtain ⟨x, y, e1, e2, rfl⟩ := zipD_get xs ys i z e
      obtain ⟨v, f1, rv⟩ := ra.get e1
      obtain ⟨w, f2, rw_⟩ := rb.get e2
      have qa2 := kQ_sub ha s
      have qb2 := kQ_sub hb s
      refine ⟨⟨us, ws, v, w, qa2, qb2, f1, f2⟩, fun u H3 yl => ?_⟩
      obtain ⟨T, v', w', o, rfl, hT, tp, rfl, g1, g2⟩ := yl
      have g1 := g1 us qa2
      have g2 := g2 ws qb2
      rw [f1] at g1
      rw [f2] at g2
      cases g1
      cases g2
      have x2 : Ext W F2 H2 (fun c => F2 c ∨ c = T) (upd H2 T o) := Ext.new ok2 hT
      have s2 := s.trans (x2.sub ok2)
      exact ⟨_, x2, .tup ⟨.inr rfl, o, upd_same, tp⟩ (.cons (rv.sub s2) (.cons (rw_.sub s2) .nil))⟩
    · have := zipD_len xs ys
      have la := ra.length
      have lb := rb.length
      exact ⟨us, ws, kQ_sub ha s, kQ_sub hb s, by omega, by omega, by omega⟩⟩
theorem i_enum {k : Bool} {t : TA} {aa : AFr} (h : AArg W H0 1 t aa) : AIter W H0 (iEnumF k W.K t) (iEnA k aa) := ⟨fun σ env F H R P ok m q kk => h.run σ env F H _ _ ok m q fun ds F1 H1 vs p1 x1 r1 l1 => by
  match ds, l1, p1, r1 with
  | [d], _, p1, .cons r1 .nil =>
    have p1 : kQ k d fun xs => P (enumD 0 xs) := p1
    obtain ⟨a, us, xs, rfl, ha, ra, p1⟩ := kQ_rv r1 p1
    refine ⟨a, us, rfl, kQ_sub ha (Sub.refl _ _), kk _ F1 H1 _ p1 x1 ⟨fun F2 H2 ok2 s i z e => ?_, fun F2 H2 ok2 s => ?_⟩⟩
    · obtain ⟨x, e1, rfl⟩ := enumD_get xs 0 i z e
      obtain ⟨v, f1, rv⟩ := ra.get e1
      have qa2 : SqK k W.K H2 a us := kQ_sub ha s
      refine ⟨⟨us, v, qa2, f1⟩, fun u H3 yl => ?_⟩
      obtain ⟨T, v', o, rfl, hT, tp, rfl, g1⟩ := yl
      have g1 := g1 us qa2
      rw [f1] at g1
      cases g1
      have x2 : Ext W F2 H2 (fun c => F2 c ∨ c = T) (upd H2 T o) := Ext.new ok2 hT
      have s2 := s.trans (x2.sub ok2)
      exact ⟨_, x2, .tup ⟨.inr rfl, o, upd_same, tp⟩ (.cons (by rw [Nat.zero_add]; exact .int _) (.cons (rv.sub s2) .nil))⟩
    · exact ⟨us, kQ_sub ha s, by rw [enumD_len, ra.length]⟩⟩
end
/-! ### in, index -/
def flatD : Dat → Bool
  | .int _ => true
  | .str _ => true
  | _ => false
/-- x in xs: ints and texts -/
def kIn (n : Bool) : Dat → Dat → (Dat → Prop) → Prop := fun x y P => flatD x = true ∧ sQ y fun xs => xs.all flatD = true ∧ ∀ b : Bool, (b = true ↔ x ∈ xs) → P (.bl (if n then !b else b))
theorem flat_v {W : Wd} {F : Addr → Prop} {H : Hp} {v : V} {d : Dat} (r : Rv W F H v d) (f : flatD d = true) : flatV v = true := by
  cases r <;> first | rfl | cases f
theorem flat_vs {W : Wd} {F : Addr → Prop} {H : Hp} : ∀ {vs : List V} {ds : List Dat}, RvAll W F H vs ds → ds.all flatD = true → vs.all flatV = true
  | _, _, .nil, _ => rfl
  | _, _, .cons a r, f => by
    rw [List.all_cons, Bool.and_eq_true] at f ⊢
    exact ⟨flat_v a f.1, flat_vs r f.2⟩
theorem eqV_flat {W : Wd} {F : Addr → Prop} {H : Hp} {v w : V} {d e : Dat} (r : Rv W F H v d) (s : Rv W F H w e) (f : flatD d = true) (g : flatD e = true) : eqV w v = true ↔ e = d := by
  cases r with
  | int i =>
    cases s with
    | int j =>
      show (j == i) = true ↔ _
      rw [beq_iff_eq]
      exact ⟨fun h => by rw [h], fun h => Dat.int.inj h⟩
    | str y => exact ⟨fun h => (by cases h), fun h => (by cases h)⟩
    | _ => cases g
  | str x =>
    cases s with
    | int j => exact ⟨fun h => (by cases h), fun h => (by cases h)⟩
    | str y =>
      show (y == x) = true ↔ _
      rw [beq_iff_eq]
      exact ⟨fun h => by rw [h], fun h => Dat.str.inj h⟩
    | _ => cases g
  | _ => cases f
theorem inV_mem {W : Wd} {F : Addr → Prop} {H : Hp} {v : V} {d : Dat} (r : Rv W F H v d) (f : flatD d = true) : ∀ {vs : List V} {ds : List Dat}, RvAll W F H vs ds → ds.all flatD = true → (inV v vs = true ↔ d ∈ ds)
  | _, _, .nil, _ => ⟨fun h => (by cases h), fun h => (by cases h)⟩
  | _, _, .cons (v := u) (d := e) a s, g => by
    rw [List.all_cons, Bool.and_eq_true] at g
    have ih := inV_mem r f s g.2
    have he := eqV_flat r a f g.1
    unfold inV at ih ⊢
    rw [List.any_cons, Bool.or_eq_true, ih, he, List.mem_cons]
    exact ⟨fun h => h.imp (fun z => z.symm) id, fun h => h.imp (fun z => z.symm) id⟩
theorem rok_in {W : Wd} {n : Bool} : ROk W Rv Pk Rv (rIn W.K n) (kIn n) := fun F H x y d e Q P ok r1 r2 q k => by
  obtain ⟨f, q⟩ := q
  obtain ⟨a, vs, xs, rfl, h, rr, ⟨g, q⟩, _⟩ := r2.seq ok q
  refine ⟨a, vs, rfl, h, flat_v r1 f, flat_vs rr g, ?_⟩
  have := q (inV x vs) (inV_mem r1 f rr g)
  cases n with
  | true => exact k _ F H _ this (.refl ok) (.bl _)
  | false => exact k _ F H _ this (.refl ok) (.bl _)

/-! ### rules with the written part told, for readings over data -/
theorem kslA {X : Cx} {K : PySem.W.Frag} (hK : X.K = K) : SlR X (rSlA K) := by
  subst hK
  exact sl_tupA
theorem kcatA {X : Cx} {K : PySem.W.Frag} (hK : X.K = K) : OpR X (binaryOp .Add) (rCatA K) := by
  subst hK
  exact op_catA
theorem rok_ip {W : Wd} {g : Int → Int → Int} : ROk W Rv Rv Rv (ipI fun i j => g i j) (kI0 fun i j => .int (g i j)) := fun F H x y d e Q P ok r1 r2 q k => by
  cases r1 <;> cases r2 <;> first | exact q.elim | exact ⟨_, _, rfl, rfl, k _ F H _ q (.refl ok) (.int _)⟩
/-! == of data: ints, texts, None, lists and tuples of such -/
mutual
def pyD : Dat → PyData
  | .int i => .int i
  | .str x => .str x
  | .lst xs => .list (pyAll xs)
  | .tup xs => .tuple (pyAll xs)
  | _ => .none
def pyAll : List Dat → List PyData
  | [] => []
  | x :: xs => pyD x :: pyAll xs
end
mutual
def layD : Dat → Bool
  | .int _ => true
  | .str x => PyData.strOk x
  | .lst xs => layAll xs
  | .tup xs => layAll xs
  | .non => true
  | _ => false
def layAll : List Dat → Bool
  | [] => true
  | x :: xs => layD x && layAll xs
end
def okE (n : Nat) (d : Dat) : Prop := layD d = true ∧ PyData.depth (pyD d) ≤ n
mutual
theorem lay_can : ∀ d : Dat, layD d = true → PyData.canLay0 (pyD d) = true
  | .non, _ => rfl
  | .int _, _ => rfl
  | .str _, h => h
  | .lst xs, h => by
    show PyData.canLayAll0 (pyAll xs) = true
    exact layAll_can xs h
  | .tup xs, h => by
    show PyData.canLayAll0 (pyAll xs) = true
    exact layAll_can xs h
  | .bl _, h => by cases h
  | .pool, h => by cases h
  | .obj _ _, h => by cases h
  | .dK _, h => by cases h
theorem layAll_can : ∀ xs : List Dat, layAll xs = true → PyData.canLayAll0 (pyAll xs) = true
  | [], _ => rfl
  | x :: xs, h => by
    have h : (layD x && layAll xs) = true := h
    rw [Bool.and_eq_true] at h
    show (PyData.canLay0 (pyD x) && PyData.canLayAll0 (pyAll xs)) = true
    rw [lay_can x h.1, layAll_can xs h.2]
    rfl
end
mutual
theorem lay_dp {W : Wd} {F : Addr → Prop} {H : Hp} : ∀ {v : V} {d : Dat}, Rv W F H v d → layD d = true → Dp W.K H v (pyD d)
  | _, _, .non, _ => .non
  | _, _, .int i, _ => .int i
  | _, _, .str x, _ => .str x
  | _, _, .lst f h r, q => .lst (SqL.of h) (layAll_dp r q)
  | _, _, .tup h r, q => .tup h.sq (layAll_dp r q)
  | _, _, .bl _, q => by cases q
  | _, _, .pool _, q => by cases q
  | _, _, .obj _ _ _ _, q => by cases q
  | _, _, .dK _ _ _, q => by cases q
theorem layAll_dp {W : Wd} {F : Addr → Prop} {H : Hp} : ∀ {vs : List V} {ds : List Dat}, RvAll W F H vs ds → layAll ds = true → DpAll W.K H vs (pyAll ds)
  | _, _, .nil, _ => .nil
  | _, _, .cons a r, q => by
    have q : (_ && _) = true := q
    rw [Bool.and_eq_true] at q
    exact .cons (lay_dp a q.1) (layAll_dp r q.2)
end
mutual
theorem lay_eqv : ∀ d e : Dat, layD d = true → layD e = true → (PyData.eqv (pyD d) (pyD e) = true ↔ d = e)
  | .int i, .int j, _, _ => by
    show (i == j) = true ↔ _
    rw [beq_iff_eq]
    exact ⟨fun e => by rw [e], fun e => Dat.int.inj e⟩
  | .str i, .str j, _, _ => by
    show (i == j) = true ↔ _
    rw [beq_iff_eq]
    exact ⟨fun e => by rw [e], fun e => Dat.str.inj e⟩
  | .lst xs, .lst ys, h1, h2 => by
    show PyData.eqvAll (pyAll xs) (pyAll ys) = true ↔ _
    rw [layAll_eqv xs ys h1 h2]
    exact ⟨fun e => by rw [e], fun e => Dat.lst.inj e⟩
  | .tup xs, .tup ys, h1, h2 => by
    show PyData.eqvAll (pyAll xs) (pyAll ys) = true ↔ _
    rw [layAll_eqv xs ys h1 h2]
    exact ⟨fun e => by rw [e], fun e => Dat.tup.inj e⟩
  | .non, .non, _, _ => ⟨fun _ => rfl, fun _ => rfl⟩
  | .non, .int _, _, _ => ⟨fun h => (by cases h), fun h => (by cases h)⟩
  | .non, .str _, _, _ => ⟨fun h => (by cases h), fun h => (by cases h)⟩
  | .non, .lst _, _, _ => ⟨fun h => (by cases h), fun h => (by cases h)⟩
  | .non, .tup _, _, _ => ⟨fun h => (by cases h), fun h => (by cases h)⟩
  | .int _, .non, _, _ => ⟨fun h => (by cases h), fun h => (by cases h)⟩
  | .int _, .str _, _, _ => ⟨fun h => (by cases h), fun h => (by cases h)⟩
  | .int _, .lst _, _, _ => ⟨fun h => (by cases h), fun h => (by cases h)⟩
  | .int _, .tup _, _, _ => ⟨fun h => (by cases h), fun h => (by cases h)⟩
  | .str _, .non, _, _ => ⟨fun h => (by cases h), fun h => (by cases h)⟩
  | .str _, .int _, _, _ => ⟨fun h => (by cases h), fun h => (by cases h)⟩
  | .str _, .lst _, _, _ => ⟨fun h => (by cases h), fun h => (by cases h)⟩
  | .str _, .tup _, _, _ => ⟨fun h => (by cases h), fun h => (by cases h)⟩
  | .lst _, .non, _, _ => ⟨fun h => (by cases h), fun h => (by cases h)⟩
  | .lst _, .int _, _, _ => ⟨fun h => (by cases h), fun h => (by cases h)⟩
  | .lst _, .str _, _, _ => ⟨fun h => (by cases h), fun h => (by cases h)⟩
  | .lst _, .tup _, _, _ => ⟨fun h => (by cases h), fun h => (by cases h)⟩
  | .tup _, .non, _, _ => ⟨fun h => (by cases h), fun h => (by cases h)⟩
  | .tup _, .int _, _, _ => ⟨fun h => (by cases h), fun h => (by cases h)⟩
  | .tup _, .str _, _, _ => ⟨fun h => (by cases h), fun h => (by cases h)⟩
  | .tup _, .lst _, _, _ => ⟨fun h => (by cases h), fun h => (by cases h)⟩
  | .bl _, _, h, _ => by cases h
  | .pool, _, h, _ => by cases h
  | .obj _ _, _, h, _ => by cases h
  | .dK _, _, h, _ => by cases h
  | _, .bl _, _, h => by cases h
  | _, .pool, _, h => by cases h
  | _, .obj _ _, _, h => by cases h
  | _, .dK _, _, h => by cases h
theorem layAll_eqv : ∀ xs ys : List Dat, layAll xs = true → layAll ys = true → (PyData.eqvAll (pyAll xs) (pyAll ys) = true ↔ xs = ys)
  | [], [], _, _ => ⟨fun _ => rfl, fun _ => rfl⟩
  | [], _ :: _, _, _ => ⟨fun h => (by cases h), fun h => (by cases h)⟩
  | _ :: _, [], _, _ => ⟨fun h => (by cases h), fun h => (by cases h)⟩
  | x :: xs, y :: ys, h1, h2 => by
    have h1 : (layD x && layAll xs) = true := h1
    have h2 : (layD y && layAll ys) = true := h2
    rw [Bool.and_eq_true] at h1 h2
    show (PyData.eqv (pyD x) (pyD y) && PyData.eqvAll (pyAll xs) (pyAll ys)) = true ↔ _
    rw [Bool.and_eq_true, lay_eqv x y h1.1 h2.1, layAll_eqv xs ys h1.2 h2.2, List.cons.injEq]
end
theorem okE_sh {d : Dat} (h : okE 64 d) : SeqAt.shaped (pyD d) = true := by
  unfold SeqAt.shaped
  rw [lay_can d h.1, decide_eq_true h.2]
  rfl
theorem layAll_of : ∀ {xs : List Dat}, (∀ x ∈ xs, layD x = true) → layAll xs = true
  | [], _ => rfl
  | x :: xs, h => by
    show (layD x && layAll xs) = true
    rw [h x List.mem_cons_self, layAll_of fun y hy => h y (List.mem_cons_of_mem _ hy)]
    rfl
theorem depAll_of : ∀ {xs : List Dat} {n : Nat}, (∀ x ∈ xs, PyData.depth (pyD x) ≤ n) → PyData.depthAll (pyAll xs) ≤ n
  | [], n, _ => Nat.zero_le n
  | x :: xs, n, h => by
    show max (PyData.depth (pyD x)) (PyData.depthAll (pyAll xs)) ≤ n
    exact Nat.max_le.mpr ⟨h x List.mem_cons_self, depAll_of fun y hy => h y (List.mem_cons_of_mem _ hy)⟩
theorem okE.up {n m : Nat} {d : Dat} (h : okE n d) (l : n ≤ m) : okE m d := ⟨h.1, Nat.le_trans h.2 l⟩
theorem okE_int (i : Int) (n : Nat) : okE n (.int i) := ⟨rfl, Nat.zero_le n⟩
theorem okE_tup {xs : List Dat} {n : Nat} (h : ∀ x ∈ xs, okE n x) : okE (n + 1) (.tup xs) := ⟨layAll_of fun x hx => (h x hx).1, Nat.succ_le_succ (depAll_of fun x hx => (h x hx).2)⟩
theorem okE_lst {xs : List Dat} {n : Nat} (h : ∀ x ∈ xs, okE n x) : okE (n + 1) (.lst xs) := ⟨layAll_of fun x hx => (h x hx).1, Nat.succ_le_succ (depAll_of fun x hx => (h x hx).2)⟩
theorem okE_ints (ns : List Int) (n : Nat) : ∀ x ∈ ns.map Dat.int, okE n x := fun x hx => by
  obtain ⟨i, _, rfl⟩ := List.mem_map.mp hx
  exact okE_int i n
def kEqD (n : Bool) : Dat → Dat → (Dat → Prop) → Prop := fun d e P => okE 64 d ∧ okE 64 e ∧ ∀ b : Bool, (b = true ↔ d = e) → P (.bl (if n then !b else b))
theorem Pk.dp {W : Wd} {F : Addr → Prop} {H : Hp} {v : V} {d : Dat} (r : Pk W F H v d) (h : layD d = true) : Dp W.K H v (pyD d) := by
  cases r with
  | rv r => exact lay_dp r h
  | own hA _ r => exact .lst (SqL.of hA) (layAll_dp r h)
theorem rok_eqD {W : Wd} : ROk W Pk Pk Rv (rEqD W.K) (kEqD false) := fun F H x y d e Q P ok r1 r2 ⟨h1, h2, q⟩ k =>
  ⟨_, _, r1.dp h1.1, r2.dp h2.1, okE_sh h1, okE_sh h2, k _ F H _ (q _ (lay_eqv d e h1.1 h2.1)) (.refl ok) (.bl _)⟩
theorem rok_neD {W : Wd} : ROk W Pk Pk Rv (rNeD W.K) (kEqD true) := fun F H x y d e Q P ok r1 r2 ⟨h1, h2, q⟩ k =>
  ⟨_, _, r1.dp h1.1, r2.dp h2.1, okE_sh h1, okE_sh h2, k _ F H _ (q _ (lay_eqv d e h1.1 h2.1)) (.refl ok) (.bl _)⟩
/-! ### objects that are made -/
abbrev ASpI := List Dat → (List Dat → Prop) → Prop
def toSpI (K : PySem.W.Frag) (ca : Nat → Addr) (c : Nat) (asp : ASpI) : Sp := fun vs H Q _ => ∃ (po : Option (Addr × Addr)) (F : Addr → Prop) (H1 : Hp) (x dx : Addr) (ws : List V) (ds : List Dat) (P : List Dat → Prop),
  vs = .ref x :: ws ∧ H = upd (upd H1 dx (.own x)) x (.ins (ca c) dx []) ∧ H1 x = none ∧ H1 dx = none ∧ dx ≠ x ∧ Okk ⟨K, ca, po⟩ F H1 ∧ RvAll ⟨K, ca, po⟩ F H1 ws ds ∧ asp ds P ∧
  ∀ fs F' H', P fs → Ext ⟨K, ca, po⟩ F H1 F' H' → Rv ⟨K, ca, po⟩ F' H' (.ref x) (.obj c fs) → Q .non H'
def aMake (c : Nat) (asp : ASpI) (aa : AFr) : AEx := fun env P => aa env fun ds => asp ds fun fs => P (.obj c fs)
theorem a_make {K : PySem.W.Frag} {ca : Nat → Addr} {po : Option (Addr × Addr)} {H0 : Hp} {n c : Nat} {E : XK} {t : TA} {aa : AFr} {asp : ASpI} (h : AArg ⟨K, ca, po⟩ H0 n t aa) :
    AExp ⟨K, ca, po⟩ H0 (tMake (ca c) (toSpI K ca c asp) [] E t) (aMake c asp aa) := ⟨fun σ env F H Q P ok m q k => h.run σ env F H _ _ ok m q fun ds F1 H1 vs p1 x1 r1 _ => by
  intro x dx hx hdx hne
  rw [List.append_nil]
  exact ⟨po, F1, H1, x, dx, vs, ds, _, rfl, rfl, hx, hdx, hne, x1.ok, r1, p1, fun fs F' H' p e r => ⟨rfl, k _ F' H' _ p (x1.trans ok e) r⟩⟩⟩
/-- the statements of an __init__: self.f = e, one for each attribute, in order; k of them are done -/
structure AIni (W : Wd) (c : Nat) (k : Nat) (ts : TS) (ai : List Sl → (List Dat → Prop) → Prop) : Prop where
  run : ∀ (H1 : Hp) (x dx : Addr) (σ : L2.St) (env : List Sl) (F1 F : Addr → Prop) (H : Hp) (fs : List (Str × V)) (ds : List Dat) (De : Ends) (P : List Dat → Prop), H1 x = none → Okk W F1 H1 → Ext W F1 H1 F H → ¬ F x → H x = some (.ins (W.ca c) dx fs) → fs.length ≤ k → RvFs W F H fs ((clsN c).take k) ds →
    (∀ m, m ∉ (clsN c).take k → fs.lookup m = none) → Mt W H1 F H σ env → σ[0]? = some (some (.ref x)) → ai env P →
    (∀ es F' H' σ', P es → Ext W F1 H1 F' H' → Rv W F' H' (.ref x) (.obj c (ds ++ es)) → De.nx σ' H') → ts De σ H
def iNil : List Sl → (List Dat → Prop) → Prop := fun _ P => P []
def iCons (ea : AEx) (ai : List Sl → (List Dat → Prop) → Prop) : List Sl → (List Dat → Prop) → Prop := fun env P => ea env fun d => ai env fun es => P (d :: es)
theorem putF_len (f : Str) (v : V) : ∀ fs : List (Str × V), (putF f v fs).length ≤ fs.length + 1
  | [] => Nat.le_refl _
  | (g, x) :: r => by
    show (if g = f then (g, v) :: r else (g, x) :: putF f v r).length ≤ _
    by_cases h : g = f
    · rw [if_pos h]
      exact Nat.le_succ _
    · rw [if_neg h]
      exact Nat.succ_le_succ (putF_len f v r)
theorem RvFs.len {W : Wd} {F : Addr → Prop} {H : Hp} : ∀ {fs : List (Str × V)} {ks : List Str} {ds : List Dat}, RvFs W F H fs ks ds → ks.length = ds.length
  | _, _, _, .nil => rfl
  | _, _, _, .cons _ _ r => congrArg (· + 1) r.len
theorem RvFs.put {W : Wd} {F : Addr → Prop} {H : Hp} {f : Str} {v : V} : ∀ {fs : List (Str × V)} {ks : List Str} {ds : List Dat}, RvFs W F H fs ks ds → f ∉ ks → RvFs W F H (putF f v fs) ks ds
  | _, _, _, .nil, _ => .nil
  | _, k :: ks, _, .cons e a r, h => .cons (by rw [lookup_putF, if_neg (fun z => h (by rw [z]; exact List.mem_cons_self))]; exact e) a (r.put fun z => h (List.mem_cons_of_mem _ z))
theorem RvFs.snoc {W : Wd} {F : Addr → Prop} {H : Hp} {f : Str} {v : V} {d : Dat} {fs : List (Str × V)} (e : fs.lookup f = some v) (a : Rv W F H v d) : ∀ {ks : List Str} {ds : List Dat}, RvFs W F H fs ks ds → RvFs W F H fs (ks ++ [f]) (ds ++ [d])
  | _, _, .nil => .cons e a .nil
  | _, _, .cons e1 a1 r => .cons e1 a1 (r.snoc e a)
theorem i_nil {W : Wd} {c : Nat} : AIni W c (clsN c).length tNext iNil := ⟨fun H1 x dx σ env F1 F H fs ds De P hx ok1 b nf hX ln r no m s0 q k => by
  rw [List.take_length] at r no
  have b2 : Ext W F1 H1 (fun a => F a ∨ a = x) H := b.fz ok1 hx hX
  refine k [] _ H σ q b2 ?_
  rw [List.append_nil]
  exact .obj (.inr rfl) hX (r.sub (sub_fz x)) no⟩
theorem i_cons {W : Wd} {c k : Nat} {te : TE} {ea : AEx} {f : Str} {ts : TS} {ai : List Sl → (List Dat → Prop) → Prop} (cl : Cls W.K (W.ca c)) (na : NoAttr W.K (W.ca c) f) (hf : (clsN c)[k]? = some f) (nd : f ∉ (clsN c).take k) (hk : k < 900) (he : ∀ H0, AExp W H0 te ea) (h2 : AIni W c (k + 1) ts ai) :
    AIni W c k (tSeq (sFld W.K (tVar 0) te f) ts) (iCons ea ai) := ⟨fun H1 x dx σ env F1 F H fs ds De P hx ok1 b nf hX ln r no m s0 q kk => by
  refine (he H1).run σ env F H _ _ b.ok m q fun d F' H' v p x1 rv => ?_
  have hX' : H' x = some (.ins (W.ca c) dx fs) := x1.kp x _ hX fun p c e => (ok1.pne hx p c e).1
  have nf' : ¬ F' x := fun f => by
    rcases x1.dn x f with z | z
    · exact nf z
    · rw [z] at hX
      cases hX
  refine ⟨.ref x, s0, x, W.ca c, dx, fs, rfl, hX', cl, na, by omega, ?_⟩
  have sb : Sub F' H' F' (upd H' x (.ins (W.ca c) dx (putF f v fs))) := fun a f => ⟨f, upd_ne (fun z => nf' (by rw [← z]; exact f))⟩
  have b' := b.trans ok1 x1
  have np := ok1.pne hx
  have b2 : Ext W F1 H1 F' (upd H' x (.ins (W.ca c) dx (putF f v fs))) := ⟨b'.up, b'.dn, fun a o ha npa => by
    rw [upd_ne (ne_of_none ha hx)]
    exact b'.kp a o ha npa, ⟨fun a f => by
    rw [(sb a f).2]
    exact x1.ok.tr a f, fun p c e => by
    obtain ⟨h1, h2, h3⟩ := x1.ok.po p c e
    exact ⟨h1.mut (np p c e).1 (np p c e).2, h2, h3⟩⟩⟩
  have tk : (clsN c).take (k + 1) = (clsN c).take k ++ [f] := by rw [List.take_add_one, hf]; rfl
  have m' := m.ext b.ok x1
  have lk : (putF f v fs).lookup f = some v := by rw [lookup_putF, if_pos rfl]
  have ll : (putF f v fs).length ≤ k + 1 := by
    have := putF_len f v fs
    omega
  refine h2.run H1 x dx σ env F1 F' _ (putF f v fs) (ds ++ [d]) De _ hx ok1 b2 nf' upd_same ll ?_ (fun mm hm => ?_) ?_ s0 p fun es F2 H2 σ2 pe e2 r2 => ?_
  · rw [tk]
    exact (((r.sub (x1.sub b.ok)).put nd).snoc lk rv).sub sb
  · rw [tk] at hm
    rw [lookup_putF, if_neg (fun z => hm (by rw [z]; exact List.mem_append.mpr (.inr List.mem_cons_self)))]
    exact no mm fun z => hm (List.mem_append.mpr (.inl z))
  · refine ⟨m'.ln, fun i s e => ?_, m'.own⟩
    obtain ⟨ov, eo, so⟩ := m'.at_ i s e
    refine ⟨ov, eo, ?_⟩
    cases s with
    | u => trivial
    | d y =>
      obtain ⟨w, ew, rw_⟩ := so
      exact ⟨w, ew, rw_.sub sb⟩
    | o us =>
      obtain ⟨a, vs, ea, nfa, n0a, ha, ra, npa⟩ := so
      have hax : a ≠ x := fun z => by
        rw [z, hX'] at ha
        cases ha
      exact ⟨a, vs, ea, nfa, n0a, by rw [upd_ne hax]; exact ha, ra.sub sb, npa⟩
  · rw [List.append_assoc] at r2
    exact kk (d :: es) F2 H2 σ2 pe e2 r2⟩

/-! ### how readings over data are gone through -/
theorem twoI {b : Bool} {p q : Prop} (h1 : b = true → p) (h2 : b = false → q) : two b p q := by
  cases b with
  | true => exact h1 rfl
  | false => exact h2 rfl
theorem twoD {c p q : Prop} [Decidable c] (h1 : c → p) (h2 : ¬ c → q) : two (decide c) p q := twoI (fun h => h1 (of_decide_eq_true h)) (fun h => h2 (of_decide_eq_false h))
theorem twoN {c p q : Prop} [Decidable c] (h1 : ¬ c → p) (h2 : c → q) : two (!decide c) p q := by
  by_cases h : c
  · rw [decide_eq_true h]
    exact h2 h
  · rw [decide_eq_false h]
    exact h1 h
theorem twoY {b : Bool} {p q : Prop} (h : b = true) (k : p) : two b p q := by
  subst h
  exact k
theorem twoZ {b : Bool} {p q : Prop} (h : b = false) (k : q) : two b p q := by
  subst h
  exact k
theorem lcA_rel {el : Dat → (Option Dat → Prop) → Prop} {P : List Dat → Prop} (R : Dat → Dat → Prop) : ∀ (ds acc : List Dat), (∀ d ∈ ds, ∀ Q : Option Dat → Prop, (∀ y, R d y → Q (some y)) → el d Q) → (∀ ys, Paired R ds ys → P (acc ++ ys)) → lcA el P ds acc
  | [], acc, _, k => by
    have := k [] .nil
    rwa [List.append_nil] at this
  | d :: ds, acc, h, k => h d List.mem_cons_self _ fun y r => by
    show lcA el P ds (acc ++ [y])
    refine lcA_rel R ds (acc ++ [y]) (fun e he => h e (List.mem_cons_of_mem _ he)) fun ys p => ?_
    rw [List.append_assoc]
    exact k (y :: ys) (.cons r p)
theorem lcA_map {el : Dat → (Option Dat → Prop) → Prop} {P : List Dat → Prop} (f : Dat → Dat) : ∀ (ds acc : List Dat), (∀ d ∈ ds, ∀ Q : Option Dat → Prop, Q (some (f d)) → el d Q) → P (acc ++ ds.map f) → lcA el P ds acc
  | [], acc, _, k => by
    rw [List.map_nil, List.append_nil] at k
    exact k
  | d :: ds, acc, h, k => h d List.mem_cons_self _ (by
    show lcA el P ds (acc ++ [f d])
    refine lcA_map f ds (acc ++ [f d]) (fun e he => h e (List.mem_cons_of_mem _ he)) ?_
    rw [List.append_assoc]
    exact k)
theorem lcA_fm {el : Dat → (Option Dat → Prop) → Prop} {P : List Dat → Prop} (f : Dat → Option Dat) : ∀ (ds acc : List Dat), (∀ d ∈ ds, ∀ Q : Option Dat → Prop, Q (f d) → el d Q) → P (acc ++ ds.filterMap f) → lcA el P ds acc
  | [], acc, _, k => by
    rw [List.filterMap_nil, List.append_nil] at k
    exact k
  | d :: ds, acc, h, k => h d List.mem_cons_self _ (by
    rw [List.filterMap_cons] at k
    cases e : f d with
    | none =>
      rw [e] at k
      exact lcA_fm f ds acc (fun e he => h e (List.mem_cons_of_mem _ he)) k
    | some y =>
      rw [e] at k
      show lcA el P ds (acc ++ [y])
      refine lcA_fm f ds (acc ++ [y]) (fun e he => h e (List.mem_cons_of_mem _ he)) ?_
      rw [List.append_assoc]
      exact k)
/-- a loop, by what holds between its turns -/
theorem forA_inv {g : ATg} {b : ASt} {D : AEnds} {ds : List Dat} {env : List Sl} (W : Nat → List Sl → Prop) (h0 : W 0 env)
    (hs : ∀ (i : Nat) (d : Dat) (env : List Sl), ds[i]? = some d → W i env → ∀ N : List Sl → Prop, (∀ env', W (i + 1) env' → N env') → g d env fun env2 => b { D with nx := N, ct := N, bk := D.nx } env2)
    (hd : ∀ env, W ds.length env → D.nx env) : forA g b D ds env := by
  have go : ∀ (n i : Nat) (env : List Sl), n + i = ds.length → W i env → forA g b D (ds.drop i) env := by
    intro n
    induction n with
    | zero =>
      intro i env e w
      have : i = ds.length := by omega
      subst this
      rw [List.drop_length]
      exact hd env w
    | succ n ih =>
      intro i env e w
      have hl : i < ds.length := by omega
      rw [List.drop_eq_getElem_cons hl]
      exact hs i _ env (List.getElem?_eq_getElem hl) w (forA g b D (ds.drop (i + 1))) fun env' w' => ih (i + 1) env' (by omega) w'
  exact go ds.length 0 env (by omega) h0
/-- .. over a range -/
theorem forA_ran {g : ATg} {b : ASt} {D : AEnds} {n : Nat} {lo : Int} {env : List Sl} (W : Nat → List Sl → Prop) (h0 : W 0 env)
    (hs : ∀ (i : Nat) (env : List Sl), i < n → W i env → ∀ N : List Sl → Prop, (∀ env', W (i + 1) env' → N env') → g (.int (lo + i)) env fun env2 => b { D with nx := N, ct := N, bk := D.nx } env2)
    (hd : ∀ env, W n env → D.nx env) : forA g b D ((List.range n).map fun i => Dat.int (lo + (i : Nat))) env := by
  refine forA_inv W h0 (fun i d env e w N hN => ?_) (fun env w => hd env (by rw [List.length_map, List.length_range] at w; exact w))
  rw [List.getElem?_map] at e
  cases h : (List.range n)[i]? with
  | none =>
    rw [h] at e
    cases e
  | some j =>
    rw [h] at e
    obtain ⟨hl, e1⟩ := List.getElem?_eq_some_iff.mp h
    rw [List.getElem_range] at e1
    subst e1
    rw [List.length_range] at hl
    cases e
    exact hs i env hl w N hN
theorem sp_ex {κ : Type} {K : PySem.W.Frag} {ca : Nat → Addr} {a : κ → ASp} {vs : List V} {H : Hp} {Q : VK} {E : XK} (h : toSp K ca (fun ds P => ∃ k, a k ds P) vs H Q E) : ∃ k, toSp K ca (a k) vs H Q E := by
  obtain ⟨po, F, ds, P, ok, r, ⟨k, q⟩, z⟩ := h
  exact ⟨k, po, F, ds, P, ok, r, q, z⟩
theorem forA_map {α : Type} {f : α → Dat} {xs : List α} {g : ATg} {b : ASt} {D : AEnds} {env : List Sl} (W : Nat → List Sl → Prop) (h0 : W 0 env)
    (hs : ∀ (i : Nat) (x : α) (env : List Sl), xs[i]? = some x → W i env → ∀ N : List Sl → Prop, (∀ env', W (i + 1) env' → N env') → g (f x) env fun env2 => b { D with nx := N, ct := N, bk := D.nx } env2)
    (hd : ∀ env, W xs.length env → D.nx env) : forA g b D (xs.map f) env := by
  refine forA_inv W h0 (fun i d env e w N hN => ?_) (fun env w => hd env (by rw [List.length_map] at w; exact w))
  rw [List.getElem?_map] at e
  cases h : xs[i]? with
  | none =>
    rw [h] at e
    cases e
  | some x =>
    rw [h] at e
    cases e
    exact hs i x env h w N hN
theorem lcA_mapL {α : Type} {f : α → Dat} {xs : List α} {el : Dat → (Option Dat → Prop) → Prop} {P : List Dat → Prop} (g : α → Dat) (h : ∀ x ∈ xs, ∀ Q : Option Dat → Prop, Q (some (g x)) → el (f x) Q) (k : P (xs.map g)) : lcA el P (xs.map f) [] := by
  have gen : ∀ (ys : List α) (acc : List Dat), (∀ x ∈ ys, ∀ Q : Option Dat → Prop, Q (some (g x)) → el (f x) Q) → P (acc ++ ys.map g) → lcA el P (ys.map f) acc := by
    intro ys
    induction ys with
    | nil =>
      intro acc _ k
      rw [List.map_nil, List.append_nil] at k
      exact k
    | cons y ys ih =>
      intro acc h k
      refine h y List.mem_cons_self _ ?_
      show lcA el P (ys.map f) (acc ++ [g y])
      refine ih _ (fun x hx => h x (List.mem_cons_of_mem _ hx)) ?_
      rw [List.append_assoc]
      exact k
  exact gen xs [] h k
theorem lcA_relL {α : Type} {f : α → Dat} {xs : List α} {el : Dat → (Option Dat → Prop) → Prop} {P : List Dat → Prop} (R : α → Dat → Prop) (h : ∀ x ∈ xs, ∀ Q : Option Dat → Prop, (∀ y, R x y → Q (some y)) → el (f x) Q) (k : ∀ ys, Paired R xs ys → P ys) : lcA el P (xs.map f) [] := by
  have gen : ∀ (zs : List α) (acc : List Dat), (∀ x ∈ zs, ∀ Q : Option Dat → Prop, (∀ y, R x y → Q (some y)) → el (f x) Q) → (∀ ys, Paired R zs ys → P (acc ++ ys)) → lcA el P (zs.map f) acc := by
    intro zs
    induction zs with
    | nil =>
      intro acc _ k
      have := k [] .nil
      rw [List.append_nil] at this
      exact this
    | cons z zs ih =>
      intro acc h k
      refine h z List.mem_cons_self _ fun y r => ?_
      show lcA el P (zs.map f) (acc ++ [y])
      refine ih _ (fun x hx => h x (List.mem_cons_of_mem _ hx)) fun ys p => ?_
      rw [List.append_assoc]
      exact k (y :: ys) (.cons r p)
  exact gen xs [] h k
theorem paired_ints {α : Type} {xs : List α} {ys : List Dat} {R : α → Int → Prop} (h : Paired (fun x y => ∃ n, y = Dat.int n ∧ R x n) xs ys) : ∃ ns : List Int, ys = ns.map Dat.int ∧ ns.length = xs.length ∧ Paired R xs ns := by
  induction h with
  | nil => exact ⟨[], rfl, rfl, .nil⟩
  | cons r _ ih =>
    obtain ⟨n, rfl, r⟩ := r
    obtain ⟨ns, rfl, l, p⟩ := ih
    exact ⟨n :: ns, rfl, congrArg (· + 1) l, .cons r p⟩
theorem paired_mem {α β : Type} {R : α → β → Prop} : ∀ {xs : List α} {ys : List β}, Paired R xs ys → ∀ y ∈ ys, ∃ x ∈ xs, R x y
  | _, _, .nil, _, h => by cases h
  | _, _, .cons r p, y, h => by
    rcases List.mem_cons.mp h with rfl | h
    · exact ⟨_, List.mem_cons_self, r⟩
    · obtain ⟨x, hx, q⟩ := paired_mem p y h
      exact ⟨x, List.mem_cons_of_mem _ hx, q⟩

/-! ### promises over data of the parts that stand -/
theorem fn_weak {P : Program} {w : World} {K : PySem.W.Frag} {mg : Str → Option Value} {base : Heap} {CX : CXT} {k : Nat} {f : Addr} {fd : FuncData} {ps : List Str} {sp sp' : Sp} (h : ∀ vs H Q E, sp' vs H Q E → sp vs H Q E) (F : FnOk P w K mg base CX k f fd ps sp) : FnOk P w K mg base CX k f fd ps sp' := by
  obtain ⟨a, b⟩ := F
  exact ⟨fun vs H Q E z => a vs H Q E (h vs H Q E z), fun i1 i2 i3 i4 i5 i6 i7 i8 i9 i10 i11 i12 i13 z => b i1 i2 i3 i4 i5 i6 i7 i8 i9 i10 i11 i12 i13 (h _ _ _ _ z)⟩
theorem ext_same {W : Wd} {F : Addr → Prop} {H H' : Hp} (k : Okk W F H) (s : Same H H') : Ext W F H F H' :=
  ⟨fun _ f => f, fun _ f => .inl f, fun a o e _ => s a o e, ⟨fun a f => (by
    cases e : H a with
    | none => exact absurd e (k.tr a f)
    | some o =>
      rw [s a o e]
      exact fun z => (by cases z)), fun p c e => ⟨(k.po p c e).1.same s, (k.po p c e).2⟩⟩⟩
/-- a Group, as data -/
def grpD (p q : Int) (bs : List Int) : Dat := .obj 0 [.int p, .int q, .tup (bs.map .int)]
/-- the group of a law -/
def lgD (p q : Int) (bs : List Int) : Dat := .tup [.int p, .int q, .lst (bs.map .int)]

/-! ### more readings: dicts of a zip, == of objects, isinstance, index, reverse -/
theorem valV_no {k : Key} : ∀ {kvs : List (Key × V)}, k ∉ kvs.map (·.1) → valV kvs k = none
  | [], _ => rfl
  | p :: r, h => by
    rw [List.map_cons, List.mem_cons, not_or] at h
    rw [valV_neg (fun z => h.1 z.symm)]
    exact valV_no h.2
theorem mergeK_new : ∀ (more acc : List (Key × V)), ((acc ++ more).map (·.1)).Nodup → mergeK acc more = acc ++ more
  | [], acc, _ => (List.append_nil acc).symm
  | kv :: more, acc, h => by
    show mergeK (putK acc kv.1 kv.2) more = _
    have h1 : kv.1 ∉ acc.map (·.1) := fun z => by
      rw [List.map_append, List.nodup_append] at h
      exact h.2.2 _ z _ (List.mem_map.mpr ⟨kv, List.mem_cons_self, rfl⟩) rfl
    rw [putK_new _ (valV_no h1)]
    have e : acc ++ [(kv.1, kv.2)] ++ more = acc ++ kv :: more := by rw [List.append_assoc]; rfl
    rw [mergeK_new more _ (by rw [e]; exact h), e]
def dgetD (kds : List (Key × Dat)) (k : Key) : Option Dat := (kds.find? fun kd => decide (kd.1 = k)).map (·.2)
theorem RvKv.dget {W : Wd} {F : Addr → Prop} {H : Hp} {k : Key} {d : Dat} : ∀ {kvs : List (Key × V)} {kds : List (Key × Dat)}, RvKv W F H kvs kds → dgetD kds k = some d → ∃ v, valV kvs k = some v ∧ Rv W F H v d
  | _, _, .nil, e => by cases e
  | _, _, .cons (k := k') (v := v) (kvs := kvs) (d := d') (kds := kds) a r, e => by
    by_cases h : k' = k
    · have e' : dgetD ((k', d') :: kds) k = some d' := by simp [dgetD, List.find?_cons, h]
      rw [e'] at e
      cases e
      exact ⟨v, valV_pos (p := (k', v)) h, a⟩
    · have e' : dgetD ((k', d') :: kds) k = dgetD kds k := by simp [dgetD, List.find?_cons, h]
      rw [e'] at e
      rw [valV_neg (p := (k', v)) h]
      exact r.dget e
theorem RvKv.zip {W : Wd} {F : Addr → Prop} {H : Hp} : ∀ {ks : List Key} {vs : List V} {ds : List Dat}, RvAll W F H vs ds → RvKv W F H (ks.zip vs) (ks.zip ds)
  | [], _, _, _ => .nil
  | _ :: _, _, _, .nil => .nil
  | _ :: _, _, _, .cons a r => .cons a (RvKv.zip r)
theorem kv_strs : ∀ ss : List Str, (ss.map (Sum.inr : Str → Key)).map kV = ss.map V.str
  | [] => rfl
  | s :: ss => congrArg (V.str s :: ·) (kv_strs ss)
section
variable {W : Wd} {H0 : Hp} {te ta tb : TE} {ae ea eb : AEx}
def aDictZip (k1 k2 : Bool) (aa : AFr) : AEx := fun env P => aa env fun ds => match ds with
  | [x, y] => kQ k1 x fun xs => kQ k2 y fun ys => ∃ ss : List Str, xs = ss.map Dat.str ∧ ss.Nodup ∧ P (.dK ((ss.map (Sum.inr : Str → Key)).zip ys))
  | _ => False
theorem a_dictZip {k1 k2 : Bool} {t : TA} {aa : AFr} (h : AArg W H0 2 t aa) : AExp W H0 (tDictZip k1 k2 W.K t) (aDictZip k1 k2 aa) := ⟨fun σ env F H R P ok m q kk => h.run σ env F H _ _ ok m q fun ds F1 H1 vs p1 x1 r1 l1 => by
  match ds, l1, p1, r1 with
  | [d, e], _, p1, .cons r1 (.cons r2 .nil) =>
    have p1 : kQ k1 d fun xs => kQ k2 e fun ys => ∃ ss : List Str, xs = ss.map Dat.str ∧ ss.Nodup ∧ P (.dK ((ss.map (Sum.inr : Str → Key)).zip ys)) := p1
    obtain ⟨a, us, xs, rfl, ha, ra, p1⟩ := kQ_rv r1 p1
    obtain ⟨b, ws, ys, rfl, hb, rb, ss, rfl, nd, p1⟩ := kQ_rv r2 p1
    have eu := ra.strs
    subst eu
    have qa := kQ_sub ha (Sub.refl _ _)
    have qb := kQ_sub hb (Sub.refl _ _)
    refine ⟨a, b, ss.map Sum.inr, ws, rfl, by rw [kv_strs]; exact qa, qb, fun p hp => ?_⟩
    rw [mergeK_new _ [] (by
      rw [List.nil_append]
      have e : ∀ (ks : List Key) (ws : List V), ∃ n, (ks.zip ws).map (·.1) = ks.take n := by
        intro ks
        induction ks with
        | nil => exact fun ws => ⟨0, rfl⟩
        | cons k ks ih =>
          intro ws
          cases ws with
          | nil => exact ⟨0, rfl⟩
          | cons w ws =>
            obtain ⟨n, hn⟩ := ih ws
            refine ⟨n + 1, ?_⟩
            show k :: (ks.zip ws).map (·.1) = k :: ks.take n
            rw [hn]
      obtain ⟨n, hn⟩ := e (ss.map Sum.inr) ws
      rw [hn]
      refine List.Pairwise.sublist (List.take_sublist _ _) ?_
      exact List.Pairwise.map _ (fun a b h z => h (Sum.inr.inj z)) nd), List.nil_append]
    have x2 : Ext W F1 H1 (fun c => F1 c ∨ c = p) (upd H1 p (.dK ((ss.map Sum.inr).zip ws))) := Ext.new x1.ok hp
    exact kk _ _ _ _ p1 (x1.trans ok x2) (.dK (.inr rfl) upd_same ((RvKv.zip rb).sub (x2.sub x1.ok)))⟩
def kDget : Dat → Dat → (Dat → Prop) → Prop
  | .dK kds, .str s, P => oQ (dgetD kds (.inr s)) P
  | .dK kds, .int i, P => oQ (dgetD kds (.inl i)) P
  | _, _, _ => False
theorem a_dget (ha : AExp W H0 ta ea) (hb : AExp W H0 tb eb) : AExp W H0 (tDGet ta tb) (a2 kDget ea eb) := ⟨fun σ env F H Q P ok m q k => ha.run σ env F H _ _ ok m q fun d F1 H1 v p1 x1 r1 => hb.run σ env F1 H1 _ _ x1.ok (m.ext ok x1) p1 fun e F2 H2 u p2 x2 r2 => by
  have r1' := r1.sub (x2.sub x1.ok)
  cases r1' with
  | @dK a kvs kds fa hA rr =>
    cases r2 with
    | str s =>
      have p2 : oQ (dgetD kds (.inr s)) P := p2
      cases g : dgetD kds (.inr s) with
      | none =>
        rw [g] at p2
        exact p2.elim
      | some z =>
        rw [g] at p2
        obtain ⟨w, e1, rw_⟩ := rr.dget g
        exact ⟨a, w, rfl, by rw [← e1]; exact DGet.k (k := .inr s) hA, k z F2 H2 w p2 (x1.trans ok x2) rw_⟩
    | int i =>
      have p2 : oQ (dgetD kds (.inl i)) P := p2
      cases g : dgetD kds (.inl i) with
      | none =>
        rw [g] at p2
        exact p2.elim
      | some z =>
        rw [g] at p2
        obtain ⟨w, e1, rw_⟩ := rr.dget g
        exact ⟨a, w, rfl, by rw [← e1]; exact DGet.k (k := .inl i) hA, k z F2 H2 w p2 (x1.trans ok x2) rw_⟩
    | _ => exact p2.elim
  | _ => exact p2.elim⟩
/-! isinstance -/
/-- what isinstance asks of a class of the text -/
structure IsiC (K : PySem.W.Frag) (C : Addr) : Prop where
  cl : Cls K C
  ha : PySem.W.findIn K (.ref C) "__class__" = some (some (.builtin "object.__class__"))
  hn : PySem.W.specialIn K (.builtin "object.__class__") "__get__" = some (some (.builtin "getset_descriptor.__get__"))
  ht : PySem.W.takesIn K (.builtin "object.__class__") = some true
  hm : PySem.W.mroIn K C (.type "object") = some true
def kIsO (c : Nat) : Dat → (Dat → Prop) → Prop
  | .obj c' _, P => c' = c ∧ P (.bl true)
  | _, _ => False
theorem kit_selfA {K : PySem.W.Frag} {S : Addr} : PySem.W.kitOne K (.ref S) (.ref S) = some true := by
  unfold PySem.W.kitOne
  rw [show (Value.ref S == Value.ref S) = true from beq_self_eq_true (Value.ref S)]
  rfl
theorem a_isO {c : Nat} (T : IsiC W.K (W.ca c)) (ha : AExp W H0 ta ea) : AExp W H0 (tCB (rIsi W.K) (tCons ta (tCons (tC (.ref (W.ca c))) tNil))) (a1 (kIsO c) ea) := ⟨fun σ env F H Q P ok m q k => ha.run σ env F H _ _ ok m q fun d F1 H1 v p1 x1 r1 => by
  cases r1 with
  | @obj a dx c' fs ds fa hA rf no =>
    obtain ⟨rfl, p1⟩ := p1
    exact ⟨_, _, _, _, true, rfl, .own _, .base (.ins hA T.cl T.ha T.hn T.ht T.hm), kit_selfA, k _ F1 H1 _ p1 x1 (.bl true)⟩
  | _ => exact p1.elim⟩
def tyD : Dat → String
  | .non => "NoneType"
  | .bl _ => "bool"
  | .int _ => "int"
  | .str _ => "str"
  | .lst _ => "list"
  | .tup _ => "tuple"
  | .pool => "list"
  | .dK _ => "dict"
  | .obj _ _ => ""
  | .cell _ => ""
/-- isinstance(x, T), T one of int, bool, str, list, tuple -/
def kIsT (T : String) : Dat → (Dat → Prop) → Prop := fun d P => match d with
  | .obj _ _ => False
  | .pool => False
  | .dK _ => False
  | .cell _ => False
  | d => P (.bl (decide (tyD d = T) || (decide (tyD d = "bool") && decide (T = "int"))))
theorem kitB_all : ∀ n ∈ ["NoneType", "bool", "int", "str", "list", "tuple"], ∀ T ∈ ["int", "bool", "str", "list", "tuple"], kitB n T = some (decide (n = T) || (decide (n = "bool") && decide (T = "int"))) := by decide +kernel
theorem a_isT {T : String} (hT : T ∈ ["int", "bool", "str", "list", "tuple"] := by decide) (ha : AExp W H0 ta ea) : AExp W H0 (tCB (rIsi W.K) (tCons ta (tCons (tC (.ty T)) tNil))) (a1 (kIsT T) ea) := ⟨fun σ env F H Q P ok m q k => ha.run σ env F H _ _ ok m q fun d F1 H1 v p1 x1 r1 => by
  cases r1 with
  | non => exact ⟨_, _, _, _, _, rfl, .ty _, .base .non, kit_ty (kitB_all "NoneType" (by decide) T hT), k _ F1 H1 _ p1 x1 (.bl _)⟩
  | bl b => exact ⟨_, _, _, _, _, rfl, .ty _, .base (.bl b), kit_ty (kitB_all "bool" (by decide) T hT), k _ F1 H1 _ p1 x1 (.bl _)⟩
  | int b => exact ⟨_, _, _, _, _, rfl, .ty _, .base (.int b), kit_ty (kitB_all "int" (by decide) T hT), k _ F1 H1 _ p1 x1 (.bl _)⟩
  | str b => exact ⟨_, _, _, _, _, rfl, .ty _, .base (.str b), kit_ty (kitB_all "str" (by decide) T hT), k _ F1 H1 _ p1 x1 (.bl _)⟩
  | lst f h r => exact ⟨_, _, _, _, _, rfl, .ty _, .base (.lst h), kit_ty (kitB_all "list" (by decide) T hT), k _ F1 H1 _ p1 x1 (.bl _)⟩
  | tup h r =>
    obtain ⟨fa, o, ho, ob, hd, rfl⟩ := h
    exact ⟨_, _, _, _, _, rfl, .ty _, .fTuple ho, kit_ty (kitB_all "tuple" (by decide) T hT), k _ F1 H1 _ p1 x1 (.bl _)⟩
  | _ => exact p1.elim⟩
/-! x == y of two objects of one class, by the promise of its own __eq__ -/
def kEqO (c : Nat) (asp : ASp) : Dat → Dat → (Dat → Prop) → Prop := fun x y P => (match x, y with
  | .obj c1 _, .obj c2 _ => c1 = c ∧ c2 = c
  | _, _ => False) ∧ asp [x, y] fun d => ∃ b, d = .bl b ∧ P (.bl b)
theorem rok_eqO {K : PySem.W.Frag} {ca : Nat → Addr} {po : Option (Addr × Addr)} {c : Nat} {asp : ASp} {E : XK} : ROk ⟨K, ca, po⟩ Rv Rv Rv (rEqO (ca c) (toSp K ca asp) E) (kEqO c asp) := fun F H x y d e Q P ok r1 r2 q k => by
  obtain ⟨q0, q⟩ := q
  cases r1 with
  | obj f1 h1 rf1 n1 =>
    cases r2 with
    | obj f2 h2 rf2 n2 =>
      obtain ⟨rfl, rfl⟩ := q0
      exact ⟨_, _, _, _, _, _, rfl, rfl, h1, h2, po, F, _, _, ok, .cons (.obj f1 h1 rf1 n1) (.cons (.obj f2 h2 rf2 n2) .nil), q, fun d F' H' v ⟨b, hb, p⟩ x r => by
        subst hb
        cases r
        exact ⟨⟨b, rfl⟩, k _ F' H' _ p x (.bl b)⟩⟩
    | _ => exact q0.elim
  | _ => exact q0.elim
/-! index -/
def aIndexT (ea eb : AEx) : AEx := fun env P => ea env fun x => tQ x fun xs => eb env fun y => match y with
  | .str z => ∃ (ss : List Str) (j : Nat), xs = ss.map Dat.str ∧ ss[j]? = some z ∧ (∀ m, m < j → ss[m]? ≠ some z) ∧ P (.int (j : Nat))
  | _ => False
theorem a_indexT (ha : AExp W H0 ta ea) (hb : AExp W H0 tb eb) : AExp W H0 (tTM W.K (rTIndex W.K) ta (tCons tb tNil)) (aIndexT ea eb) := ⟨fun σ env F H Q P ok m q k => ha.run σ env F H _ _ ok m q fun d F1 H1 v p1 x1 r1 => by
  cases r1 with
  | @tup a vs _ hA rr =>
    obtain ⟨fa, o, ho, tp⟩ := hA
    refine ⟨⟨a, o, vs, rfl, ho, tp⟩, hb.run σ env F1 H1 _ _ x1.ok (m.ext ok x1) p1 fun e F2 H2 u p2 x2 r2 => ?_⟩
    have h2 : FzT W F1 H1 a vs := ⟨fa, o, ho, tp⟩
    cases r2 with
    | str z =>
      obtain ⟨ss, j, rfl, h3, h4, p2⟩ := p2
      have e := rr.strs
      subst e
      exact ⟨a, ss, z, j, rfl, rfl, (h2.sub (x2.sub x1.ok)).sq, h3, h4, k _ F2 H2 _ p2 (x1.trans ok x2) (.int _)⟩
    | _ => exact p2.elim
  | _ => exact p1.elim⟩
def aIndexL (ea eb : AEx) : AEx := fun env P => ea env fun x => lQ x fun xs => eb env fun y => flatD y = true ∧ xs.all flatD = true ∧ ∃ j : Nat, xs[j]? = some y ∧ (∀ m, m < j → xs[m]? ≠ some y) ∧ P (.int (j : Nat))
theorem a_indexL (ha : AEg Pk W H0 ta ea) (hb : AExp W H0 tb eb) : AExp W H0 (tBM W.K "list" (rIndex W.K) ta (tCons tb tNil)) (aIndexL ea eb) := ⟨fun σ env F H Q P ok m q k => ha.run σ env F H _ _ ok m q fun d F1 H1 v p1 x1 r1 => by
  cases d with
  | lst xs =>
    obtain ⟨a, vs, rfl, hA, np, rr⟩ := r1.lst x1.ok
    refine ⟨.inl ⟨rfl, vs, SqL.of hA⟩, hb.run σ env F1 H1 _ _ x1.ok (m.ext ok x1) p1 fun e F2 H2 u p2 x2 r2 => ?_⟩
    obtain ⟨f1, f2, j, g1, g2, p2⟩ := p2
    have rr2 := rr.sub (x2.sub x1.ok)
    have hA2 := x2.kp a _ hA np
    obtain ⟨v, e1, rv⟩ := rr2.get g1
    refine ⟨a, vs, u, j, v, rfl, rfl, SqL.of hA2, flat_v r2 f1, flat_vs rr2 f2, e1, (eqV_flat r2 rv f1 f1).mpr rfl, fun m z' hm hz => ?_, k _ F2 H2 _ p2 (x1.trans ok x2) (.int _)⟩
    obtain ⟨d', e2, rd⟩ := rr2.getV hz
    have fd' : flatD d' = true := List.all_eq_true.mp f2 d' (List.mem_of_getElem? e2)
    refine Bool.eq_false_iff.mpr fun z => ?_
    have := (eqV_flat r2 rd f1 fd').mp z
    subst this
    exact g2 m hm e2
  | _ => exact p1.elim⟩
/-! reverse -/
theorem RvAll.reverse {F : Addr → Prop} {H : Hp} : ∀ {vs : List V} {ds : List Dat}, RvAll W F H vs ds → RvAll W F H vs.reverse ds.reverse
  | _, _, .nil => .nil
  | _, _, .cons a r => by
    rw [List.reverse_cons, List.reverse_cons]
    exact (RvAll.reverse r).append (.cons a .nil)
def aRevT (ea : AEx) : AEx := fun env P => ea env fun x => tQ x fun xs => P (.tup xs.reverse)
theorem a_revT (ha : AExp W H0 ta ea) : AExp W H0 (tRevF W.K ta) (aRevT ea) := ⟨fun σ env F H Q P ok m q k => ha.run σ env F H _ _ ok m q fun d F1 H1 v p1 x1 r1 => by
  cases r1 with
  | @tup a vs _ hA rr =>
    refine ⟨a, vs, rfl, hA.sq, fun p o hp tp => ?_⟩
    have x2 : Ext W F1 H1 (fun b => F1 b ∨ b = p) (upd H1 p o) := Ext.new x1.ok hp
    exact k _ _ _ _ p1 (x1.trans ok x2) (.tup ⟨.inr rfl, o, upd_same, tp⟩ (rr.reverse.sub (x2.sub x1.ok)))
  | _ => exact p1.elim⟩
def aRevL (ea : AEx) : AFr := fun env P => ea env fun x => lQ x fun xs => P xs.reverse
theorem a_revL (ha : AEg Pk W H0 ta ea) : AFrs W H0 (tRevL W.K ta) (aRevL ea) := ⟨fun σ env F H Q P ok m q k => ha.run σ env F H _ _ ok m q fun d F1 H1 v p1 x1 r1 => by
  cases d with
  | lst xs =>
    obtain ⟨a, vs, rfl, hA, np, rr⟩ := r1.lst x1.ok
    refine ⟨a, vs, rfl, SqL.of hA, fun p hp => ?_⟩
    have x2 : Ext W F1 H1 F1 (upd H1 p (.lst vs.reverse)) := Ext.lay x1.ok hp
    exact k _ _ _ _ _ p1 (x1.trans ok x2) (x1.there ok hp) (fun f => x1.ok.tr p f hp) upd_same (rr.reverse.sub (x2.sub x1.ok))
  | _ => exact p1.elim⟩
theorem i_ran2 {t : TA} {aa : AFr} (h : AArg W H0 2 t aa) : AIter W H0 (iRng2 t) (iRan aa) := ⟨fun σ env F H R P ok m q k => h.run σ env F H _ _ ok m q fun ds F1 H1 vs p1 x1 r1 l1 => by
  match ds, l1, p1, r1 with
  | [.int i, .int j], _, p1, .cons r (.cons r2 .nil) =>
    obtain ⟨p0, p1⟩ := p1
    cases r
    cases r2
    exact ⟨i, j, rfl, ⟨by omega, by omega, by omega, by omega⟩, k _ F1 H1 _ p1 x1 (it_ran i (j - i).toNat)⟩⟩
end

/-! ### zip of three, its triples without a dict -/
theorem sep3K {N a b c : Addr} (h1 : a < N) (h2 : b < N) (h3 : c < N) : ZipSep3 (N + 5) (N + 3) (N + 4) N (N + 1) (N + 2) [N, a] [N + 1, b] [N + 2, c] :=
  zip_sep3 (fp1 := [a]) (fp2 := [b]) (fp3 := [c]) (fun x hx => by rw [List.mem_singleton.mp hx]; exact h1) (fun x hx => by rw [List.mem_singleton.mp hx]; exact h2) (fun x hx => by rw [List.mem_singleton.mp hx]; exact h3)
/-- the turns of a zip of a, b and c -/
def ItzT (k1 k2 k3 : Bool) (K : PySem.W.Frag) (a b c : Addr) : It where
  go := fun i H => ∃ (xs ys zs : List V) (x y z : V), SqK k1 K H a xs ∧ SqK k2 K H b ys ∧ SqK k3 K H c zs ∧ xs[i]? = some x ∧ ys[i]? = some y ∧ zs[i]? = some z
  yld := fun i H v H' => ∃ T x y z o, v = .ref T ∧ H T = none ∧ TpO o [x, y, z] ∧ H' = upd H T o ∧ (∀ xs, SqK k1 K H a xs → xs[i]? = some x) ∧ (∀ ys, SqK k2 K H b ys → ys[i]? = some y) ∧ ∀ zs, SqK k3 K H c zs → zs[i]? = some z
  stop := fun i H => ∃ xs ys zs : List V, SqK k1 K H a xs ∧ SqK k2 K H b ys ∧ SqK k3 K H c zs ∧ i ≤ xs.length ∧ i ≤ ys.length ∧ i ≤ zs.length ∧ (i = xs.length ∨ i = ys.length ∨ i = zs.length)
theorem at_some {us : List Value} {i : Nat} {u u' : Value} (hu : us[i]? = some u) (eu : us.toArray[i]? = some u') : u' = u := by
  have : us.toArray[i]? = some u := by simpa using hu
  rw [this] at eu
  exact (Option.some.inj eu).symm
theorem turnT {P : Program} {w : World} {K : PySem.W.Frag} {elts : List Expr} {kk : Nat} {tpos : Pos} {k1 k2 k3 : Bool} {a b c z TI TO i1 i2 i3 : Addr} (D : ZipSep3 z TI TO i1 i2 i3 [i1, a] [i2, b] [i3, c]) (na : a ≠ i1) (nb : b ≠ i2) (nc : c ≠ i3) :
    Turn P w K (.Tuple elts kk tpos) (ItzT k1 k2 k3 K a b c) [z, TI, TO, i1, i2, i3] z
      (fun i h => IsZip h z TI TO .none ∧ IsTupOf3 h TI (.ref i1) (.ref i2) (.ref i3) ∧ (∃ x y u, IsTupOf3 h TO x y u) ∧ ItK k1 h i1 a i ∧ ItK k2 h i2 b i ∧ ItK k3 h i3 c i) where
  mem := by simp
  obj := fun i h st c hc => by
    obtain ⟨hz, hTI, ⟨x, y, u, hTO⟩, g1, g2, g3⟩ := st
    simp only [List.mem_cons, List.not_mem_nil, or_false] at hc
    rcases hc with rfl | rfl | rfl | rfl | rfl | rfl
    · exact ⟨_, hz, fun v q => nomatch q⟩
    · exact ⟨_, hTI, fun v q => nomatch q⟩
    · exact ⟨_, hTO, fun v q => nomatch q⟩
    · exact g1.obj
    · exact g2.obj
    · exact g3.obj
  keep := fun i h h' st q => by
    obtain ⟨hz, hTI, ⟨x, y, u, hTO⟩, g1, g2, g3⟩ := st
    exact ⟨q z (by simp) _ hz, q TI (by simp) _ hTI, ⟨x, y, u, q TO (by simp) _ hTO⟩, g1.at fun o => q i1 (by simp) o, g2.at fun o => q i2 (by simp) o, g3.at fun o => q i3 (by simp) o⟩
  item := by
    intro X hP hw hK hc i pins s σ H E I hf st hg
    subst hP hw hK
    obtain ⟨hz, hTI, ⟨x0, y0, u0, hTO⟩, g1, g2, g3⟩ := st
    obtain ⟨xs, ys, zs, x, y, zz, qx, qy, qz, hx, hy, hzz⟩ := hg
    obtain ⟨us, ru, pu, _⟩ := seqK I qx
    obtain ⟨vs, rv, pv, _⟩ := seqK I qy
    obtain ⟨ws, rw', pw, _⟩ := seqK I qz
    obtain ⟨u, hu, ru1⟩ := ru.get hx
    obtain ⟨v, hv, rv1⟩ := rv.get hy
    obtain ⟨t, ht, rt1⟩ := rw'.get hzz
    have zl : z < s.heap.objs.size := Heap.lt_size hz
    have lu : i < us.toArray.size := by simpa using (List.getElem?_eq_some_iff.mp hu).1
    have lv : i < vs.toArray.size := by simpa using (List.getElem?_eq_some_iff.mp hv).1
    have lw : i < ws.toArray.size := by simpa using (List.getElem?_eq_some_iff.mp ht).1
    have hh : X.A.in1.handled = none := I.ok.hd hc
    have d1 := drK (prog := X.prog) (w := X.w) (A := X.A.in1) k1 hh na us.toArray
    have d2 := drK (prog := X.prog) (w := X.w) (A := X.A.in1) k2 hh nb vs.toArray
    have d3 := drK (prog := X.prog) (w := X.w) (A := X.A.in1) k3 hh nc ws.toArray
    refine wpAny_pyNext_zipD3_item D d1 d2 d3 hz hTI hTO ⟨g1, pu⟩ ⟨g2, pv⟩ ⟨g3, pw⟩ lu lv lw fun u' v' t' h' tk eu ev et z1 t1 s1 s2 s3 hT hsz hk => ?_
    have eu' := at_some hu eu
    have ev' := at_some hv ev
    have et' := at_some ht et
    subst eu' ev' et'
    refine ⟨_, rfl, wpAny_letOwnedTupleGo_zip (s := { s with heap := h', toks := tk }) z1 fun h2 z2 sb => ?_⟩
    have hT2 : IsTupOf3 h2 s.heap.objs.size u' v' t' := (sb.2 _ (Nat.ne_of_gt zl)).trans hT
    have new : ObjOk X.prog X.w (upd H s.heap.objs.size (.frz { cls := .type "tuple", data := .seq #[u', v', t'] } (.tup [x, y, zz]))) h2 s.heap.objs.size (.frz { cls := .type "tuple", data := .seq #[u', v', t'] } (.tup [x, y, zz])) := ⟨hT2, Nat.le_of_ble_eq_true rfl, [u', v', t'], .cons ru1 (.cons rv1 (.cons rt1 .nil)), ⟨_, hT2, rfl, _, rfl⟩⟩
    have ks : ∀ c o, c ∉ [z, TI, TO, i1, i2, i3] → s.heap.get? c = some o → h2.get? c = some o := fun c o hb q => by
      simp only [List.mem_cons, List.not_mem_nil, or_false, not_or] at hb
      exact (sb.2 c hb.1).trans (hk c o hb.1 hb.2.2.1 hb.2.2.2.1 hb.2.2.2.2.1 hb.2.2.2.2.2 q)
    have J := I.turnedNew (t' := tk) (ch := [z, TI, TO, i1, i2, i3]) ks hf (Nat.le_refl _) new
    refine ⟨V.ref s.heap.objs.size, _, J, rfl, ⟨_, x, y, zz, _, rfl, I.hok.fresh (Nat.le_refl _), ⟨_, rfl, rfl⟩, rfl, fun l hl => by rw [seqK_inj I hl qx]; exact hx, fun l hl => by rw [seqK_inj I hl qy]; exact hy, fun l hl => by rw [seqK_inj I hl qz]; exact hzz⟩,
      ⟨z2, ?_, ⟨u', v', t', (sb.2 _ D.TOz).trans t1⟩, s1.1.at fun o q => (sb.2 _ D.zi1.symm).trans q, s2.1.at fun o q => (sb.2 _ D.zi2.symm).trans q, s3.1.at fun o q => (sb.2 _ D.zi3.symm).trans q⟩, fun c hcm => ?_⟩
    · exact (sb.2 _ D.TIz).trans (hk _ _ D.TIz D.TITO D.TIi1 D.TIi2 D.TIi3 hTI)
    · have hlt : c < s.heap.objs.size := by
        simp only [List.mem_cons, List.not_mem_nil, or_false] at hcm
        rcases hcm with rfl | rfl | rfl | rfl | rfl | rfl
        · exact zl
        · exact Heap.lt_size hTI
        · exact Heap.lt_size hTO
        · obtain ⟨_, e, _⟩ := g1.obj
          exact Heap.lt_size e
        · obtain ⟨_, e, _⟩ := g2.obj
          exact Heap.lt_size e
        · obtain ⟨_, e, _⟩ := g3.obj
          exact Heap.lt_size e
      rw [upd_ne (Nat.ne_of_lt hlt)]
      exact (hf c hcm).1
  done := by
    intro X hP hw hK hc i pins s σ H E I hf st hg
    subst hP hw hK
    obtain ⟨hz, hTI, ⟨x0, y0, u0, hTO⟩, g1, g2, g3⟩ := st
    obtain ⟨xs, ys, zs, qx, qy, qz, lx, ly, lz, hend⟩ := hg
    obtain ⟨us, ru, pu, _⟩ := seqK I qx
    obtain ⟨vs, rv, pv, _⟩ := seqK I qy
    obtain ⟨ws, rw', pw, _⟩ := seqK I qz
    have e1 := ru.length
    have e2 := rv.length
    have e3 := rw'.length
    have hh : X.A.in1.handled = none := I.ok.hd hc
    have d1 := drK (prog := X.prog) (w := X.w) (A := X.A.in1) k1 hh na us.toArray
    have d2 := drK (prog := X.prog) (w := X.w) (A := X.A.in1) k2 hh nb vs.toArray
    have d3 := drK (prog := X.prog) (w := X.w) (A := X.A.in1) k3 hh nc ws.toArray
    refine wpAny_pyNext_zipD3_end D d1 d2 d3 hz hTI hTO ⟨g1, pu⟩ ⟨g2, pv⟩ ⟨g3, pw⟩ (by simp; omega) (by simp; omega) (by simp; omega) (by simp; omega) fun h' tk hk => ⟨rfl, I.turnedL (t' := tk) (ch := [z, TI, TO, i1, i2, i3]) (fun c o hb q => ?_) hf⟩
    simp only [List.mem_cons, List.not_mem_nil, or_false, not_or] at hb
    exact hk c o hb.1 hb.2.2.1 hb.2.2.2.1 hb.2.2.2.2.1 hb.2.2.2.2.2 q
  self := fun A i s Q E st h => wpAny_pyIter_zip st.1 h
/-- zip(e, e2, e3): the kinds told -/
def iZipT (k1 k2 k3 : Bool) (K : PySem.W.Frag) (ta : TA) : TI := fun σ H R => ta σ H fun vs H1 => ∃ a b c xs ys zs, vs = [.ref a, .ref b, .ref c] ∧ SqK k1 K H1 a xs ∧ SqK k2 K H1 b ys ∧ SqK k3 K H1 c zs ∧ R (ItzT k1 k2 k3 K a b c) H1
theorem fresh6 {X : Cx} {pins : List (Addr × Obj)} {σ : L2.St} {H : Hp} {s : Shared} (I : Inv X pins σ H s) (c : Addr) (hc : c ∈ [s.heap.objs.size + 5, s.heap.objs.size + 3, s.heap.objs.size + 4, s.heap.objs.size, s.heap.objs.size + 1, s.heap.objs.size + 2]) : FpOk X pins H c := by
  have le : s.heap.objs.size ≤ c := by
    simp only [List.mem_cons, List.not_mem_nil, or_false] at hc
    rcases hc with rfl | rfl | rfl | rfl | rfl | rfl
    · exact Nat.le_add_right _ _
    · exact Nat.le_add_right _ _
    · exact Nat.le_add_right _ _
    · exact Nat.le_refl _
    · exact Nat.le_add_right _ _
    · exact Nat.le_add_right _ _
  exact I.fpOk le (I.hok.fresh le)
theorem vals3 {x y z : V} {us : List Value} (h : Vals [x, y, z] us) : ∃ u v w, us = [u, v, w] ∧ RelV x u ∧ RelV y v ∧ RelV z w := by
  cases h with
  | cons a h =>
    cases h with
    | cons b h =>
      cases h with
      | cons c h =>
        cases h
        exact ⟨_, _, _, rfl, a, b, c⟩
theorem pi_zipT (k1 k2 k3 : Bool) {X : Cx} {K : PySem.W.Frag} (hK : X.K = K) {e e2 e3 : Expr} {ta : TA} {p pos tpos : Pos} {elts : List Expr} {kk : Nat} (hg : Gl X "zip") (hm : X.mg "zip" = none) (ha : PA X [e, e2, e3] ta)
    (hs : starEach [e, e2, e3] X.env = (false, eval e X.env) :: starEach [e2, e3] X.env := by rfl) (hpl : (backTo pos (starEach [e2, e3] X.env)).any (·.1) = false := by rfl) :
    PI X (.Tuple elts kk tpos) (.Call (.Name "zip" p) [e, e2, e3] [] pos) (iZipT k1 k2 k3 K ta) := by
  subst hK
  refine ⟨fun pins s σ H R I h => Call_ (ld_blt I hg hm PyProof.Rows.boot_zip (PyProof.Rows.callWith_type1 (thn (ha.run pos pins s σ H _ I h) fun us s1 hh => ?_) hs hpl))⟩
  obtain ⟨vs, H1, I1, r1, a, b, c, xs, ys, zs, rfl, qx, qy, qz, q⟩ := hh
  obtain ⟨u1, u2, u3, rfl, ru, rv, rw'⟩ := vals3 r1
  cases (show u1 = Value.ref a from ru)
  cases (show u2 = Value.ref b from rv)
  cases (show u3 = Value.ref c from rw')
  obtain ⟨us, _, pu, _⟩ := seqK I1 qx
  obtain ⟨ws, _, pw, _⟩ := seqK I1 qy
  obtain ⟨ts, _, pt, _⟩ := seqK I1 qz
  refine zip_begins3 (bgK k1 a us.toArray) (bgK k2 b ws.toArray) (bgK k3 c ts.toArray) pu pw pt fun h' hz hTI hTO o1 o2 o3 hsz hk => wpAny_pyIter_zip hz ?_
  have J : Inv X pins σ H1 { s1 with heap := h' } := I1.kept (t' := s1.toks) hk
  have la : (a : Nat) < s1.heap.objs.size := pu.lt
  have lb : (b : Nat) < s1.heap.objs.size := pw.lt
  have lc : (c : Nat) < s1.heap.objs.size := pt.lt
  exact ⟨_, [s1.heap.objs.size + 5, s1.heap.objs.size + 3, s1.heap.objs.size + 4, s1.heap.objs.size, s1.heap.objs.size + 1, s1.heap.objs.size + 2], _, _, H1, rfl, J,
    turnT (sep3K la lb lc) (Nat.ne_of_lt la) (Nat.ne_of_lt (Nat.lt_succ_of_lt lb)) (Nat.ne_of_lt (Nat.lt_succ_of_lt (Nat.lt_succ_of_lt lc))), ⟨hz, hTI, ⟨_, _, _, hTO⟩, itK0 o1, itK0 o2, itK0 o3⟩, fresh6 I1, q⟩

/-! ### zip of three, over data -/
def zip3D : List Dat → List Dat → List Dat → List Dat
  | x :: xs, y :: ys, z :: zs => .tup [x, y, z] :: zip3D xs ys zs
  | _, _, _ => []
theorem zip3D_get : ∀ (xs ys zs : List Dat) (i : Nat) (d : Dat), (zip3D xs ys zs)[i]? = some d → ∃ x y z, xs[i]? = some x ∧ ys[i]? = some y ∧ zs[i]? = some z ∧ d = .tup [x, y, z]
  | [], _, _, i, d, e => by simp [zip3D] at e
  | _ :: _, [], _, i, d, e => by simp [zip3D] at e
  | _ :: _, _ :: _, [], i, d, e => by simp [zip3D] at e
  | x :: xs, y :: ys, z :: zs, 0, d, e => by
    simp only [zip3D, List.getElem?_cons_zero, Option.some.injEq] at e
    exact ⟨x, y, z, rfl, rfl, rfl, e.symm⟩
  | x :: xs, y :: ys, z :: zs, i + 1, d, e => by
    simp only [zip3D, List.getElem?_cons_succ] at e ⊢
    exact zip3D_get xs ys zs i d e
theorem zip3D_len : ∀ xs ys zs : List Dat, (zip3D xs ys zs).length ≤ xs.length ∧ (zip3D xs ys zs).length ≤ ys.length ∧ (zip3D xs ys zs).length ≤ zs.length ∧ ((zip3D xs ys zs).length = xs.length ∨ (zip3D xs ys zs).length = ys.length ∨ (zip3D xs ys zs).length = zs.length)
  | [], _, _ => by simp [zip3D]
  | _ :: _, [], _ => by simp [zip3D]
  | _ :: _, _ :: _, [] => by simp [zip3D]
  | x :: xs, y :: ys, z :: zs => by
    have := zip3D_len xs ys zs
    simp only [zip3D, List.length_cons]
    omega
def iZip3A (k1 k2 k3 : Bool) (aa : AFr) : AFr := fun env P => aa env fun ds => match ds with
  | [x, y, z] => kQ k1 x fun xs => kQ k2 y fun ys => kQ k3 z fun zs => P (zip3D xs ys zs)
  | _ => False
theorem i_zip3 {W : Wd} {H0 : Hp} {k1 k2 k3 : Bool} {t : TA} {aa : AFr} (h : AArg W H0 3 t aa) : AIter W H0 (iZipT k1 k2 k3 W.K t) (iZip3A k1 k2 k3 aa) := ⟨fun σ env F H R P ok m q kk => h.run σ env F H _ _ ok m q fun ds F1 H1 vs p1 x1 r1 l1 => by
  match ds, l1, p1, r1 with
  | [d, e, f], _, p1, .cons r1 (.cons r2 (.cons r3 .nil)) =>
    have p1 : kQ k1 d fun xs => kQ k2 e fun ys => kQ k3 f fun zs => P (zip3D xs ys zs) := p1
    obtain ⟨a, us, xs, rfl, ha, ra, p1⟩ := kQ_rv r1 p1
    obtain ⟨b, ws, ys, rfl, hb, rb, p1⟩ := kQ_rv r2 p1
    obtain ⟨c, ts, zs, rfl, hc, rc, p1⟩ := kQ_rv r3 p1
    refine ⟨a, b, c, us, ws, ts, rfl, kQ_sub ha (Sub.refl _ _), kQ_sub hb (Sub.refl _ _), kQ_sub hc (Sub.refl _ _), kk _ F1 H1 _ p1 x1 ⟨fun F2 H2 ok2 s i z e => ?_, fun F2 H2 ok2 s => ?_⟩⟩
    · obtain ⟨x, y, z', e1, e2, e3, rfl⟩ := zip3D_get xs ys zs i z e
      obtain ⟨v, f1, rv⟩ := ra.get e1
      obtain ⟨w, f2, rw_⟩ := rb.get e2
      obtain ⟨t, f3, rt⟩ := rc.get e3
      have qa2 : SqK k1 W.K H2 a us := kQ_sub ha s
      have qb2 : SqK k2 W.K H2 b ws := kQ_sub hb s
      have qc2 : SqK k3 W.K H2 c ts := kQ_sub hc s
      refine ⟨⟨us, ws, ts, v, w, t, qa2, qb2, qc2, f1, f2, f3⟩, fun u H3 yl => ?_⟩
      obtain ⟨T, v', w', t', o, rfl, hT, tp, rfl, g1, g2, g3⟩ := yl
      have g1 := g1 us qa2
      have g2 := g2 ws qb2
      have g3 := g3 ts qc2
      rw [f1] at g1
      rw [f2] at g2
      rw [f3] at g3
      cases g1
      cases g2
      cases g3
      have x2 : Ext W F2 H2 (fun c => F2 c ∨ c = T) (upd H2 T o) := Ext.new ok2 hT
      have s2 := s.trans (x2.sub ok2)
      exact ⟨_, x2, .tup ⟨.inr rfl, o, upd_same, tp⟩ (.cons (rv.sub s2) (.cons (rw_.sub s2) (.cons (rt.sub s2) .nil)))⟩
    · have := zip3D_len xs ys zs
      have la := ra.length
      have lb := rb.length
      have lc := rc.length
      exact ⟨us, ws, ts, kQ_sub ha s, kQ_sub hb s, kQ_sub hc s, by omega, by omega, by omega, by omega⟩⟩

/-! ### sum(..) of a tuple of ints -/
def rSumT (K : PySem.W.Frag) : List V → Hp → VK → Prop := fun vs H Q => ∃ (a : Addr) (ns : List Int), vs = [V.ref a] ∧ SqT K H a (ns.map V.int) ∧ Q (.int ns.sum) H
theorem ksumT {X : Cx} {K : PySem.W.Frag} (hK : X.K = K) (hc : X.calm = true) : CallR X (.builtin "sum") (rSumT K) := by
  subst hK
  intro pins s σ H vs us Q I r ⟨a, ns, e, hs, q⟩
  subst e
  obtain ⟨its, rv, ⟨o, ho, hoc, n, hod⟩, _⟩ := I.tuple hs
  rw [Vals.ref1 r]
  have hi := rv.ints
  obtain ⟨xs, e⟩ := hi.allInts.items
  have hn : numsOf (intItems xs).toList = ns := by rw [← e]; exact hi.numsOf
  rw [nums_intItems] at hn
  subst hn
  rw [e] at hod
  have ht : s.heap.IsTuple a (intItems xs) := ⟨o, ho, hoc, n, hod⟩
  have hlt : a < s.heap.objs.size := Heap.lt_size ho
  refine call_sum_walkG (wpAny_pyIter_tuple ht ?_)
  refine ⟨s.heap.objs.size, [s.heap.objs.size, a], [s.heap.objs.size], _, _, _, numAt xs, rfl, Walks.tuple (A := X.A.in1) (I.ok.hd hc) _ a (Nat.ne_of_lt hlt) (intItems xs),
    ⟨⟨_, Heap.get?_push_size _ rfl, rfl, rfl⟩, ht.push _⟩, fun b hb => ?_, fun _ _ hp => intItems_at hp, fun h' tk t' hk => ?_⟩
  · show b < (s.heap.push _).objs.size
    rw [Heap.size_push]
    rcases List.mem_cons.mp hb with z | z
    · rw [z]
      exact Nat.lt_succ_self _
    · rw [List.mem_singleton.mp z]
      exact Nat.lt_succ_of_lt hlt
  · refine ⟨.int _, H, I.kept (t' := tk) fun b u eb => hk b u (fun hm => ?_) (Heap.get?_push_of_some _ eb), ⟨t', rfl⟩, ?_⟩
    · rw [List.mem_singleton.mp hm] at eb
      exact absurd (Heap.lt_size eb) (Nat.lt_irrefl _)
    · have e2 : (intItems xs).size = xs.size := by simp [intItems]
      rw [e2, preSum_eq, List.take_of_length_le (by simp)]
      exact q
def kSumT : Dat → (Dat → Prop) → Prop
  | .tup xs, P => ∃ ns : List Int, xs = ns.map Dat.int ∧ P (.int ns.sum)
  | _, _ => False
theorem u_sumT {W : Wd} : UOk W Pk (rSumT W.K) kSumT := fun F H x d Q P ok r q k => by
  cases d with
  | tup xs =>
    obtain ⟨ns, rfl, q⟩ := q
    cases r with
    | rv r =>
      cases r with
      | tup hA rr =>
        have e := rr.ints
        subst e
        exact ⟨_, ns, rfl, hA.sq, k _ F H _ q (.refl ok) (.int _)⟩
  | _ => exact q.elim
/-! list.insert -/
/-- x.insert(e, f), x a list of the def's own -/
def sIns (i : Nat) (ea eb : AEx) : ASt := fun D env => oQ2 (dAt env i) fun xs => xs.length < 100000 ∧ ea env fun x => match x with
  | .int j => (0 ≤ j ∧ j < 100000) ∧ eb env fun d => D.nx (env.set i (.o (xs.take j.toNat ++ [d] ++ xs.drop j.toNat)))
  | _ => False
def rInsert : V → List V → Hp → VK → Prop := fun x vs H Q => ∃ (l : Addr) (xs : List V) (i : Int) (y : V), x = .ref l ∧ vs = [.int i, y] ∧ H l = some (.lst xs) ∧ xs.length < sizeLine ∧ 0 ≤ i ∧ i < 2 ^ 63 ∧
    Q .non (upd H l (.lst (xs.take i.toNat ++ [y] ++ xs.drop i.toNat)))
theorem kins {X : Cx} : MtR X "list.insert" rInsert := mt_insert
theorem s_ins {W : Wd} {te tf : TE} {ea eb : AEx} {i : Nat} (he : ∀ H0, AExp W H0 te ea) (hf : ∀ H0, AExp W H0 tf eb) : AStm W (tDrop (tBM W.K "list" rInsert (tVar i) (tCons te (tCons tf tNil)))) (sIns i ea eb) := ⟨fun F0 H0 F1 H1 De Da σ env F H ok b m k h => by
  obtain ⟨xs, a, vs, ⟨hl, h⟩, e, es, nf, n0, hA, r, np⟩ := own_at m h
  refine ⟨_, es, .inl ⟨rfl, vs, SqL.of hA⟩, ?_⟩
  refine (he H0).run σ env F H _ _ b.ex.ok m h fun d F' H' v p x rv => ?_
  cases rv with
  | int j =>
    obtain ⟨⟨j0, j1⟩, p⟩ := p
    obtain ⟨nf', hA', r'⟩ := own_ext b.ex.ok x nf hA r np
    refine (hf H0).run σ env F' H' _ _ x.ok (m.ext b.ex.ok x) p fun d2 F2 H2 v2 p2 x2 rv2 => ?_
    obtain ⟨nf2, hA2, r2⟩ := own_ext x.ok x2 nf' hA' r' np
    have m2 := (m.ext b.ex.ok x).ext x.ok x2
    obtain ⟨b3, m3⟩ := s_own ok ((b.step ok x).step ok x2) m2 e es nf2 n0 np (((r2.take j.toNat).append (.cons rv2 .nil)).append (r2.drop j.toNat))
    exact ⟨a, vs, j, v2, rfl, rfl, hA2, len_size (by rw [r.length]; omega), j0, by omega, k.nx _ _ _ _ b3 m3 p2⟩
  | _ => exact p.elim⟩

/-! ### cells: objects that still change, beside the data -/
inductive Ce where
  | lst (xs : List Dat)
  | obj (k : Nat) (ds : List Dat)
  | dK (kvs : List (Key × Dat))
  | xd (k : Nat) (ds : List Dat)
abbrev Sto := Addr → Option Ce
def Sto.put (M : Sto) (a : Addr) (c : Option Ce) : Sto := fun b => if b = a then c else M b
theorem Sto.put_s {M : Sto} {a : Addr} {c : Option Ce} : M.put a c a = c := if_pos rfl
theorem Sto.put_n {M : Sto} {a b : Addr} {c : Option Ce} (h : b ≠ a) : M.put a c b = M b := if_neg h
/-- the attribute of the errors of a class, by the class's number -/
def xcN : Nat → Option Str
  | 10 => some "what"
  | 11 => some "what"
  | 12 => some "what"
  | 13 => some "what"
  | 14 => some "at"
  | _ => none
def CeOk (W : Wd) (F : Addr → Prop) (H : Hp) (a : Addr) : Ce → Prop
  | .lst xs => ∃ vs, H a = some (.lst vs) ∧ RvAll W F H vs xs
  | .obj k ds => ∃ dx fs, H a = some (.ins (W.ca k) dx fs) ∧ fs.length ≤ ds.length ∧ RvFs W F H fs ((clsN k).take ds.length) ds ∧ ∀ m, m ∉ (clsN k).take ds.length → fs.lookup m = none
  | .dK kvs => ∃ us, H a = some (.dK us) ∧ RvKv W F H us kvs
  | .xd k ds => ∃ f v x, xcN k = some f ∧ H a = some (.xd [(f, v)]) ∧ ds = [x] ∧ Rv W F H v x
theorem CeOk.there {W : Wd} {F : Addr → Prop} {H : Hp} {a : Addr} : ∀ {c : Ce}, CeOk W F H a c → H a ≠ none
  | .lst _, ⟨_, h, _⟩ => fun z => by rw [z] at h; cases h
  | .obj _ _, ⟨_, _, h, _⟩ => fun z => by rw [z] at h; cases h
  | .dK _, ⟨_, h, _⟩ => fun z => by rw [z] at h; cases h
  | .xd _ _, ⟨_, _, _, _, h, _⟩ => fun z => by rw [z] at h; cases h
theorem CeOk.sub {W : Wd} {F F' : Addr → Prop} {H H' : Hp} {a : Addr} (s : Sub F H F' H') (e : H' a = H a) : ∀ {c : Ce}, CeOk W F H a c → CeOk W F' H' a c
  | .lst _, ⟨vs, h, r⟩ => ⟨vs, e.trans h, r.sub s⟩
  | .obj _ _, ⟨dx, fs, h, l, r, n⟩ => ⟨dx, fs, e.trans h, l, r.sub s, n⟩
  | .dK _, ⟨us, h, r⟩ => ⟨us, e.trans h, r.sub s⟩
  | .xd _ _, ⟨f, v, x, h0, h, h1, r⟩ => ⟨f, v, x, h0, e.trans h, h1, r.sub s⟩
/-- not the pool, nor its copy -/
def NPc (W : Wd) (a : Addr) : Prop := ∀ p c, W.po = some (p, c) → a ≠ p ∧ a ≠ c
theorem NPc.np {W : Wd} {a : Addr} (h : NPc W a) : NPo W a := fun p c e => (h p c e).1
structure SoOk (W : Wd) (F : Addr → Prop) (H : Hp) (M : Sto) : Prop where
  ok : Okk W F H
  at_ : ∀ a c, M a = some c → ¬ F a ∧ NPc W a ∧ CeOk W F H a c
structure Ex2 (W : Wd) (F : Addr → Prop) (H : Hp) (M : Sto) (F' : Addr → Prop) (H' : Hp) (M' : Sto) : Prop where
  up : ∀ a, F a → F' a
  dn : ∀ a, F' a → F a ∨ H a = none ∨ M a ≠ none
  kp : ∀ a o, H a = some o → NPo W a → M a = none → H' a = some o
  al : ∀ a, H a ≠ none → H' a ≠ none
  md : ∀ a, M' a ≠ none → M a ≠ none ∨ H a = none
  ok : SoOk W F' H' M'
section
variable {W : Wd} {F F' F2 : Addr → Prop} {H H' H2 : Hp} {M M' M2 : Sto}
theorem SoOk.nf (ok : SoOk W F H M) {a : Addr} (f : F a) : M a = none := by
  cases e : M a with
  | none => rfl
  | some c => exact absurd f (ok.at_ a c e).1
theorem SoOk.al (ok : SoOk W F H M) {a : Addr} (h : M a ≠ none) : H a ≠ none := by
  cases e : M a with
  | none => exact absurd e h
  | some c => exact (ok.at_ a c e).2.2.there
theorem SoOk.new (ok : SoOk W F H M) {a : Addr} (h : H a = none) : M a = none := by
  cases e : M a with
  | none => rfl
  | some c => exact absurd h (ok.al (by rw [e]; exact fun z => by cases z))
theorem Ex2.sub (ok : SoOk W F H M) (x : Ex2 W F H M F' H' M') : Sub F H F' H' := fun a f => by
  refine ⟨x.up a f, ?_⟩
  cases e : H a with
  | none => exact absurd e (ok.ok.tr a f)
  | some o => exact x.kp a o e (ok.ok.np f) (ok.nf f)
theorem Ex2.refl (ok : SoOk W F H M) : Ex2 W F H M F H M := ⟨fun _ f => f, fun _ f => .inl f, fun _ _ e _ _ => e, fun _ h => h, fun _ h => .inl h, ok⟩
theorem Ex2.there (x : Ex2 W F H M F' H' M') {a : Addr} (h : H' a = none) : H a = none := by
  cases e : H a with
  | none => rfl
  | some o => exact absurd h (x.al a (by rw [e]; exact fun z => by cases z))
theorem Ex2.trans (x : Ex2 W F H M F' H' M') (y : Ex2 W F' H' M' F2 H2 M2) : Ex2 W F H M F2 H2 M2 := by
  refine ⟨fun a f => y.up a (x.up a f), fun a f => ?_, fun a o e n m => ?_, fun a h => y.al a (x.al a h), fun a h => ?_, y.ok⟩
  · rcases y.dn a f with z | z | z
    · exact x.dn a z
    · exact .inr (.inl (x.there z))
    · rcases x.md a z with u | u
      · exact .inr (.inr u)
      · exact .inr (.inl u)
  · refine y.kp a o (x.kp a o e n m) n ?_
    cases e2 : M' a with
    | none => rfl
    | some c =>
      rcases x.md a (by rw [e2]; exact fun z => by cases z) with u | u
      · exact absurd m u
      · rw [u] at e
        cases e
  · rcases y.md a h with z | z
    · exact x.md a z
    · exact .inr (x.there z)
theorem Ext.ex2 (ok : SoOk W F H M) (x : Ext W F H F' H') : Ex2 W F H M F' H' M := by
  refine ⟨x.up, fun a f => ?_, fun a o e n _ => x.kp a o e n, fun a h z => h (x.there ok.ok z), fun a h => .inl h, x.ok, fun a c e => ?_⟩
  · rcases x.dn a f with z | z
    · exact .inl z
    · exact .inr (.inl z)
  · obtain ⟨h1, h2, h3⟩ := ok.at_ a c e
    have ha : H' a = H a := by
      cases e2 : H a with
      | none => exact absurd e2 h3.there
      | some o => exact x.kp a o e2 h2.np
    refine ⟨fun f => ?_, h2, h3.sub (x.sub ok.ok) ha⟩
    rcases x.dn a f with z | z
    · exact h1 z
    · exact h3.there z
/-- what stood apart from cells and data stays apart -/
theorem Ex2.own (x : Ex2 W F H M F' H' M') {a : Addr} {o : HO} (nf : ¬ F a) (hA : H a = some o) (m : M a = none) (np : NPc W a) : ¬ F' a ∧ H' a = some o ∧ M' a = none := by
  refine ⟨fun f => ?_, x.kp a o hA np.np m, ?_⟩
  · rcases x.dn a f with z | z | z
    · exact nf z
    · rw [z] at hA
      cases hA
    · exact z m
  · cases e2 : M' a with
    | none => rfl
    | some c =>
      rcases x.md a (by rw [e2]; exact fun z => by cases z) with u | u
      · exact absurd m u
      · rw [u] at hA
        cases hA
/-- the same store, the heap changed at one address that is neither data nor a cell -/
theorem SoOk.upd_own (ok : SoOk W F H M) {a : Addr} {o : HO} (nf : ¬ F a) (m : M a = none) (np : NPc W a) : SoOk W F (upd H a o) M := by
  have sb : Sub F H F (upd H a o) := fun c f => ⟨f, upd_ne (fun z => nf (by rw [← z]; exact f))⟩
  refine ⟨⟨fun c f => ?_, fun p c ep => ?_⟩, fun c e h => ?_⟩
  · rw [(sb c f).2]
    exact ok.ok.tr c f
  · obtain ⟨h1, h2, h3⟩ := ok.ok.po p c ep
    exact ⟨h1.mut (np p c ep).1 (np p c ep).2, h2, h3⟩
  · obtain ⟨h1, h2, h3⟩ := ok.at_ c e h
    have hne : c ≠ a := fun z => by rw [z, m] at h; cases h
    exact ⟨h1, h2, h3.sub sb (upd_ne hne)⟩
/-- a cell is changed -/
theorem SoOk.upd_cell (ok : SoOk W F H M) {a : Addr} {o : HO} {c0 c1 : Ce} (h0 : M a = some c0) (h1 : CeOk W F (upd H a o) a c1) : Ex2 W F H M F (upd H a o) (M.put a (some c1)) := by
  obtain ⟨nf, np, c3⟩ := ok.at_ a c0 h0
  have sb : Sub F H F (upd H a o) := fun c f => ⟨f, upd_ne (fun z => nf (by rw [← z]; exact f))⟩
  refine ⟨fun _ f => f, fun _ f => .inl f, fun b u e n m => ?_, fun b h => ?_, fun b h => ?_, ⟨fun c f => ?_, fun p c ep => ?_⟩, fun c e h => ?_⟩
  · have hne : b ≠ a := fun z => by rw [z, h0] at m; cases m
    rw [upd_ne hne]
    exact e
  · by_cases z : b = a
    · rw [z, upd_same]
      exact fun z => by cases z
    · rw [upd_ne z]
      exact h
  · by_cases z : b = a
    · rw [z, h0]
      exact .inl fun z => by cases z
    · rw [Sto.put_n z] at h
      exact .inl h
  · rw [(sb c f).2]
    exact ok.ok.tr c f
  · obtain ⟨h1, h2, h3⟩ := ok.ok.po p c ep
    exact ⟨h1.mut (np p c ep).1 (np p c ep).2, h2, h3⟩
  · by_cases z : c = a
    · subst z
      rw [Sto.put_s] at h
      cases h
      exact ⟨nf, np, h1⟩
    · rw [Sto.put_n z] at h
      obtain ⟨k1, k2, k3⟩ := ok.at_ c e h
      exact ⟨k1, k2, k3.sub sb (upd_ne z)⟩
/-- a new cell: its object stands, apart from all else -/
theorem SoOk.new_cell (ok : SoOk W F H M) {a : Addr} {c1 : Ce} (nf : ¬ F a) (m : M a = none) (np : NPc W a) (h1 : CeOk W F H a c1) : SoOk W F H (M.put a (some c1)) := by
  refine ⟨ok.ok, fun c e h => ?_⟩
  by_cases z : c = a
  · subst z
    rw [Sto.put_s] at h
    cases h
    exact ⟨nf, np, h1⟩
  · rw [Sto.put_n z] at h
    exact ok.at_ c e h
/-- an address that stands apart is settled -/
theorem SoOk.fz (ok : SoOk W F H M) {a : Addr} (h : H a ≠ none) (m : M a = none) (np : NPc W a) : SoOk W (fun b => F b ∨ b = a) H M := by
  have sb : Sub F H (fun b => F b ∨ b = a) H := fun _ f => ⟨.inl f, rfl⟩
  refine ⟨⟨fun c f => ?_, fun p c ep => ?_⟩, fun c e q => ?_⟩
  · rcases f with f | rfl
    · exact ok.ok.tr c f
    · exact h
  · obtain ⟨h1, h2, h3⟩ := ok.ok.po p c ep
    refine ⟨h1, fun f => ?_, fun f => ?_⟩
    · rcases f with f | f
      · exact h2 f
      · exact (np p c ep).1 f.symm
    · rcases f with f | f
      · exact h3 f
      · exact (np p c ep).2 f.symm
  · obtain ⟨k1, k2, k3⟩ := ok.at_ c e q
    refine ⟨fun f => ?_, k2, k3.sub sb rfl⟩
    rcases f with f | f
    · exact k1 f
    · rw [f, m] at q
      cases q
end
/-- the heap at the entry of a def, with the cells: what the def's own lists are not -/
def mask (H0 : Hp) (M : Sto) : Hp := fun a => match M a with
  | some _ => some (.lst [])
  | none => H0 a
theorem mask_none {H0 : Hp} {M : Sto} {a : Addr} : mask H0 M a = none ↔ M a = none ∧ H0 a = none := by
  unfold mask
  cases M a with
  | none => exact ⟨fun h => ⟨rfl, h⟩, fun h => h.2⟩
  | some c => exact ⟨fun h => (by cases h), fun h => (by cases h.1)⟩
abbrev Mt2 (W : Wd) (H0 : Hp) (F : Addr → Prop) (H : Hp) (M : Sto) (σ : L2.St) (env : List Sl) : Prop := Mt W (mask H0 M) F H σ env
theorem Mt.ex2 {W : Wd} {H0 : Hp} {F F' : Addr → Prop} {H H' : Hp} {M M' : Sto} {σ : L2.St} {env : List Sl} (ok : SoOk W F H M) (x : Ex2 W F H M F' H' M') (m : Mt2 W H0 F H M σ env) : Mt2 W H0 F' H' M' σ env :=
  ⟨m.ln, fun i s e => by
    obtain ⟨ov, e1, r⟩ := m.at_ i s e
    refine ⟨ov, e1, ?_⟩
    cases s with
    | u => trivial
    | d y =>
      obtain ⟨v, e, r⟩ := r
      exact ⟨v, e, r.sub (x.sub ok)⟩
    | o xs =>
      obtain ⟨a, vs, e, nf, n0, h, r, np⟩ := r
      obtain ⟨m0, n0⟩ := mask_none.mp n0
      obtain ⟨h1, h2, h3⟩ := x.own nf h m0 np
      exact ⟨a, vs, e, h1, mask_none.mpr ⟨h3, n0⟩, h2, r.sub (x.sub ok), np⟩, m.own⟩
/-! errors as data -/
abbrev XD := Nat → List Dat → Sto → Prop
/-- what an error carries: nothing, or a new dict with its one attribute -/
def XAt (W : Wd) (F : Addr → Prop) (H : Hp) (M : Sto) (k : Nat) (d : Option Addr) (ds : List Dat) : Prop := match xcN k with
  | none => d = none ∧ ds = []
  | some f => ∃ a v x, d = some a ∧ H a = some (.xd [(f, v)]) ∧ ds = [x] ∧ Rv W F H v x ∧ ¬ F a ∧ M a = none ∧ NPc W a
def XOk (W : Wd) (F : Addr → Prop) (H : Hp) (M : Sto) (E : XK) (X : XD) : Prop := ∀ k ds d F' H' M', Ex2 W F H M F' H' M' → XAt W F' H' M' k d ds → (∀ a, d = some a → H a = none) → X k ds M' → E (.ref (W.ca k)) d H'
theorem XOk.step {W : Wd} {F F' : Addr → Prop} {H H' : Hp} {M M' : Sto} {E : XK} {X : XD} (x : Ex2 W F H M F' H' M') (h : XOk W F H M E X) : XOk W F' H' M' E X := fun k ds d F2 H2 M2 y xa nw => h k ds d F2 H2 M2 (x.trans y) xa fun a e => x.there (nw a e)
/-- what becomes of an error, by the slots -/
abbrev XS := L2.St → XK
structure Cfg (W : Wd) (H0 : Hp) (E : XS) (F : Addr → Prop) (H : Hp) (M : Sto) (σ : L2.St) (env : List Sl) (X : XD) : Prop where
  st : SoOk W F H M
  m : Mt2 W H0 F H M σ env
  x : XOk W F H M (E σ) X
theorem Cfg.step {W : Wd} {H0 : Hp} {E : XS} {F F' : Addr → Prop} {H H' : Hp} {M M' : Sto} {σ : L2.St} {env : List Sl} {X : XD} (c : Cfg W H0 E F H M σ env X) (x : Ex2 W F H M F' H' M') : Cfg W H0 E F' H' M' σ env X :=
  ⟨x.ok, c.m.ex2 c.st x, c.x.step x⟩
/-! ### readings over data and cells -/
abbrev BEx := List Sl → Sto → XD → (Dat → Sto → Prop) → Prop
abbrev BFr := List Sl → Sto → XD → (List Dat → Sto → Prop) → Prop
abbrev BTs := List Sl → Sto → XD → (Bool → Sto → Prop) → Prop
abbrev Rel2 := Wd → (Addr → Prop) → Hp → Sto → V → Dat → Prop
def Rv2 : Rel2 := fun W F H _ v d => Rv W F H v d
/-- read, not kept -/
inductive Pk2 (W : Wd) (F : Addr → Prop) (H : Hp) (M : Sto) : V → Dat → Prop
  | rv {v : V} {d : Dat} : Rv W F H v d → Pk2 W F H M v d
  | own {a : Addr} {vs : List V} {ds : List Dat} : H a = some (.lst vs) → NPo W a → M a = none → ¬ F a → RvAll W F H vs ds → Pk2 W F H M (.ref a) (.lst ds)
structure Pst2 (R : Rel2) : Prop where
  run : ∀ {W : Wd} {F F' : Addr → Prop} {H H' : Hp} {M M' : Sto} {v : V} {d : Dat}, SoOk W F H M → Ex2 W F H M F' H' M' → R W F H M v d → R W F' H' M' v d
theorem pst_rv2 : Pst2 Rv2 := ⟨fun k x r => Rv.sub (x.sub k) r⟩
theorem pst_pk2 : Pst2 Pk2 := ⟨fun {W F F' H H' M M' v d} k x r => by
  cases r with
  | rv r => exact .rv (r.sub (x.sub k))
  | @own a vs ds h n m nf r =>
    refine .own (x.kp _ _ h n m) n ?_ ?_ (r.sub (x.sub k))
    · cases e2 : M' a with
      | none => rfl
      | some c =>
        rcases x.md a (by rw [e2]; exact fun z => by cases z) with u | u
        · exact absurd m u
        · rw [u] at h
          cases h
    · intro f
      rcases x.dn a f with z | z | z
      · exact nf z
      · rw [z] at h
        cases h
      · exact z m⟩
/-- what a list's cell holds, read as it stands -/
def drc : Addr → Option Ce → Dat
  | _, some (.lst xs) => .lst xs
  | a, _ => .cell a
def drf (M : Sto) : Dat → Dat
  | .cell a => drc a (M a)
  | d => d
/-- how a kind of reading is used: as it is, or looked up -/
structure Cv (R : Rel2) (S : Rel) (D : Sto → Dat → Dat) : Prop where
  run : ∀ {W : Wd} {F : Addr → Prop} {H : Hp} {M : Sto} {v : V} {d : Dat}, SoOk W F H M → R W F H M v d → S W F H v (D M d)
def dId : Sto → Dat → Dat := fun _ d => d
theorem cv_rv : Cv Rv2 Rv dId := ⟨fun _ r => r⟩
theorem cv_pk : Cv Pk2 Pk drf := ⟨fun {W F H M v d} ok r => by
  cases r with
  | own h n m nf r => exact .own h n r
  | rv r =>
    cases r with
    | cell a =>
      show Pk W F H (.ref a) (drc a (M a))
      cases e : M a with
      | none => exact .rv (.cell a)
      | some c =>
        cases c with
        | lst xs =>
          obtain ⟨_, np, vs, h, r⟩ := ok.at_ a _ e
          exact .own h np.np r
        | obj k ds => exact .rv (.cell a)
        | dK kvs => exact .rv (.cell a)
        | xd _ _ => exact .rv (.cell a)
    | non => exact .rv .non
    | bl b => exact .rv (.bl b)
    | int i => exact .rv (.int i)
    | str x => exact .rv (.str x)
    | pool h => exact .rv (.pool h)
    | lst f h r => exact .rv (.lst f h r)
    | tup h r => exact .rv (.tup h r)
    | obj f h r n => exact .rv (.obj f h r n)
    | dK f h r => exact .rv (.dK f h r)⟩
structure BEg (R : Rel2) (W : Wd) (H0 : Hp) (E : XS) (te : TE) (be : BEx) : Prop where
  run : ∀ (σ : L2.St) (env : List Sl) (F : Addr → Prop) (H : Hp) (M : Sto) (Q : VK) (P : Dat → Sto → Prop) (X : XD), Cfg W H0 E F H M σ env X → be env M X P → (∀ d F' H' v M', P d M' → Ex2 W F H M F' H' M' → R W F' H' M' v d → Q v H') → te σ H Q
abbrev BExp : Wd → Hp → XS → TE → BEx → Prop := BEg Rv2
structure BFrs (W : Wd) (H0 : Hp) (E : XS) (te : TE) (be : BFr) : Prop where
  run : ∀ (σ : L2.St) (env : List Sl) (F : Addr → Prop) (H : Hp) (M : Sto) (Q : VK) (P : List Dat → Sto → Prop) (X : XD), Cfg W H0 E F H M σ env X → be env M X P →
    (∀ ds F' H' a vs M', P ds M' → Ex2 W F H M F' H' M' → H a = none → ¬ F' a → M' a = none → H' a = some (.lst vs) → RvAll W F' H' vs ds → Q (.ref a) H') → te σ H Q
structure BTst (W : Wd) (H0 : Hp) (E : XS) (tt : TT) (bt : BTs) : Prop where
  run : ∀ (σ : L2.St) (env : List Sl) (F : Addr → Prop) (H : Hp) (M : Sto) (Q : Bool → Hp → Prop) (P : Bool → Sto → Prop) (X : XD), Cfg W H0 E F H M σ env X → bt env M X P → (∀ b F' H' M', P b M' → Ex2 W F H M F' H' M' → Q b H') → tt σ H Q
structure BArg (W : Wd) (H0 : Hp) (E : XS) (n : Nat) (ta : TA) (ba : BFr) : Prop where
  run : ∀ (σ : L2.St) (env : List Sl) (F : Addr → Prop) (H : Hp) (M : Sto) (Q : List V → Hp → Prop) (P : List Dat → Sto → Prop) (X : XD), Cfg W H0 E F H M σ env X → ba env M X P →
    (∀ ds F' H' vs M', P ds M' → Ex2 W F H M F' H' M' → RvAll W F' H' vs ds → ds.length = n → Q vs H') → ta σ H Q
structure BIter (W : Wd) (H0 : Hp) (E : XS) (wi : TI) (bi : BFr) : Prop where
  run : ∀ (σ : L2.St) (env : List Sl) (F : Addr → Prop) (H : Hp) (M : Sto) (R : It → Hp → Prop) (P : List Dat → Sto → Prop) (X : XD), Cfg W H0 E F H M σ env X → bi env M X P →
    (∀ ds F' H' J M', P ds M' → Ex2 W F H M F' H' M' → ItOk W J F' H' ds → R J H') → wi σ H R
/-! what speaks of no cell -/
def upE (ae : AEx) : BEx := fun env M _ P => ae env fun d => P d M
def upF (ae : AFr) : BFr := fun env M _ P => ae env fun d => P d M
def upT (at_ : ATs) : BTs := fun env M _ P => at_ env fun b => P b M
section
variable {W : Wd} {H0 : Hp} {E : XS} {te ta tb tc : TE} {ae : AEx} {be ea eb ec : BEx} {tt t u : TT} {bt bu : BTs}
theorem b_up (h : ∀ H0, AExp W H0 te ae) : BExp W H0 E te (upE ae) := ⟨fun σ env F H M Q P X c q k => (h _).run σ env F H Q _ c.st.ok c.m q fun d F' H' v p x r => k d F' H' v M p (x.ex2 c.st) r⟩
theorem b_upF {af : AFr} (h : ∀ H0, AFrs W H0 te af) : BFrs W H0 E te (upF af) := ⟨fun σ env F H M Q P X c q k => (h _).run σ env F H Q _ c.st.ok c.m q fun ds F' H' a vs p x n nf ha r => k ds F' H' a vs M p (x.ex2 c.st) n nf (c.st.new n) ha r⟩
theorem b_upT {at_ : ATs} (h : ∀ H0, ATst W H0 tt at_) : BTst W H0 E tt (upT at_) := ⟨fun σ env F H M Q P X c q k => (h _).run σ env F H Q _ c.st.ok c.m q fun b F' H' p x => k b F' H' M p (x.ex2 c.st)⟩
theorem b_upA {n : Nat} {t : TA} {aa : AFr} (h : ∀ H0, AArg W H0 n t aa) : BArg W H0 E n t (upF aa) := ⟨fun σ env F H M Q P X c q k => (h _).run σ env F H Q _ c.st.ok c.m q fun ds F' H' vs p x r l => k ds F' H' vs M p (x.ex2 c.st) r l⟩
theorem b_upI {wi : TI} {ai : AFr} (h : ∀ H0, AIter W H0 wi ai) : BIter W H0 E wi (upF ai) := ⟨fun σ env F H M R P X c q k => (h _).run σ env F H R _ c.st.ok c.m q fun ds F' H' J p x r => k ds F' H' J M p (x.ex2 c.st) r⟩
/-- a value that is only looked at -/
theorem b_pk (h : BExp W H0 E te be) : BEg Pk2 W H0 E te be := ⟨fun σ env F H M Q P X c q k => h.run σ env F H M Q P X c q fun d F' H' v M' p x r => k d F' H' v M' p x (.rv r)⟩
theorem b_peek {i : Nat} : BEg Pk2 W H0 E (tVar i) (upE (aPeek i)) := ⟨fun σ env F H M Q P X c h k => by
  have h : dQ2 (dAt env i) fun d => P d M := h
  cases e : dAt env i with
  | d x =>
    rw [e] at h
    obtain ⟨_, e1, v, rfl, r⟩ := c.m.at_ i _ (dAt_get e (fun z => by cases z))
    exact ⟨v, e1, k x F H v M h (.refl c.st) (.rv r)⟩
  | u =>
    rw [e] at h
    exact h.elim
  | o xs =>
    rw [e] at h
    obtain ⟨_, e1, a, vs, rfl, nf, n0, ha, r, np⟩ := c.m.at_ i _ (dAt_get e (fun z => by cases z))
    exact ⟨_, e1, k _ F H _ M h (.refl c.st) (.own ha (fun p c e => (np p c e).1) (mask_none.mp n0).1 nf r)⟩⟩
theorem npc_new {F : Addr → Prop} {H : Hp} (ok : Okk W F H) {a : Addr} (n : H a = none) : NPc W a := ok.pne n
/-- a new list, settled at once -/
def bFz (be : BFr) : BEx := fun env M X P => be env M X fun ds M' => P (.lst ds) M'
theorem b_fz {bf : BFr} (h : BFrs W H0 E te bf) : BExp W H0 E te (bFz bf) := ⟨fun σ env F H M Q P X c q k => h.run σ env F H M Q _ X c q fun ds F' H' a vs M' p x n nf m ha r => by
  have np := npc_new c.st.ok n
  have hn : H' a ≠ none := by rw [ha]; exact fun z => by cases z
  refine k (.lst ds) (fun b => F' b ∨ b = a) H' (.ref a) M' p ⟨fun b f => .inl (x.up b f), fun b f => ?_, x.kp, x.al, x.md, x.ok.fz hn m np⟩ (.lst (.inr rfl) ha (r.sub (sub_fz a)))
  rcases f with f | rfl
  · exact x.dn b f
  · exact .inr (.inl n)⟩
/-- a new list, from now on a cell -/
def bCel (be : BFr) : BEx := fun env M X P => be env M X fun ds M' => ∀ a, M' a = none → P (.cell a) (M'.put a (some (.lst ds)))
theorem b_cel {bf : BFr} (h : BFrs W H0 E te bf) : BExp W H0 E te (bCel bf) := ⟨fun σ env F H M Q P X c q k => h.run σ env F H M Q _ X c q fun ds F' H' a vs M' p x n nf m ha r => by
  have np := npc_new c.st.ok n
  refine k (.cell a) F' H' (.ref a) _ (p a m) ⟨x.up, x.dn, x.kp, x.al, fun b h => ?_, x.ok.new_cell nf m np ⟨vs, ha, r⟩⟩ (.cell a)
  by_cases z : b = a
  · rw [z]
    exact .inr n
  · rw [Sto.put_n z] at h
    exact x.md b h⟩
/-! two values -/
def b2 (D1 D2 : Sto → Dat → Dat) (f : Dat → Dat → (Dat → Prop) → Prop) (ea eb : BEx) : BEx := fun env M X P => ea env M X fun x M1 => eb env M1 X fun y M2 => f (D1 M2 x) (D2 M2 y) fun z => P z M2
theorem b_op {R1 R2 : Rel2} {S1 S2 : Rel} {D1 D2 : Sto → Dat → Dat} {r : L2.R2} {f : Dat → Dat → (Dat → Prop) → Prop} (pr : Pst2 R1) (c1 : Cv R1 S1 D1) (c2 : Cv R2 S2 D2) (hr : ROk W S1 S2 Rv r f) (ha : BEg R1 W H0 E ta ea) (hb : BEg R2 W H0 E tb eb) : BExp W H0 E (tOp r ta tb) (b2 D1 D2 f ea eb) :=
  ⟨fun σ env F H M Q P X c q k => ha.run σ env F H M _ _ X c q fun d F1 H1 v M1 p1 x1 r1 => hb.run σ env F1 H1 M1 _ _ X (c.step x1) p1 fun e F2 H2 u M2 p2 x2 r2 =>
    hr F2 H2 v u _ _ Q _ x2.ok.ok (c1.run x2.ok (pr.run x1.ok x2 r1)) (c2.run x2.ok r2) p2 fun z F3 H3 w p3 x3 r3 => k z F3 H3 w M2 p3 ((x1.trans x2).trans (x3.ex2 x2.ok)) r3⟩
def b2F (D1 D2 : Sto → Dat → Dat) (f : Dat → Dat → (List Dat → Prop) → Prop) (ea eb : BEx) : BFr := fun env M X P => ea env M X fun x M1 => eb env M1 X fun y M2 => f (D1 M2 x) (D2 M2 y) fun z => P z M2
theorem b_opF {R1 R2 : Rel2} {S1 S2 : Rel} {D1 D2 : Sto → Dat → Dat} {r : L2.R2} {f : Dat → Dat → (List Dat → Prop) → Prop} (pr : Pst2 R1) (c1 : Cv R1 S1 D1) (c2 : Cv R2 S2 D2) (hr : RFr W S1 S2 r f) (ha : BEg R1 W H0 E ta ea) (hb : BEg R2 W H0 E tb eb) : BFrs W H0 E (tOp r ta tb) (b2F D1 D2 f ea eb) :=
  ⟨fun σ env F H M Q P X c q k => ha.run σ env F H M _ _ X c q fun d F1 H1 v M1 p1 x1 r1 => hb.run σ env F1 H1 M1 _ _ X (c.step x1) p1 fun e F2 H2 u M2 p2 x2 r2 =>
    hr F2 H2 v u _ _ Q _ x2.ok.ok (c1.run x2.ok (pr.run x1.ok x2 r1)) (c2.run x2.ok r2) p2 fun ds F3 H3 a vs p3 x3 n nf h r => k ds F3 H3 a vs M2 p3 ((x1.trans x2).trans (x3.ex2 x2.ok)) ((x1.trans x2).there n) nf (x2.ok.new n) h r⟩
/-! one value -/
def b1 (D : Sto → Dat → Dat) (f : Dat → (Dat → Prop) → Prop) (ea : BEx) : BEx := fun env M X P => ea env M X fun x M1 => f (D M1 x) fun z => P z M1
def b1F (D : Sto → Dat → Dat) (f : Dat → (List Dat → Prop) → Prop) (ea : BEx) : BFr := fun env M X P => ea env M X fun x M1 => f (D M1 x) fun z => P z M1
theorem b_b1 {R : Rel2} {S : Rel} {D : Sto → Dat → Dat} {r : List V → Hp → VK → Prop} {f : Dat → (Dat → Prop) → Prop} (cv : Cv R S D) (hr : UOk W S r f) (ha : BEg R W H0 E te be) : BExp W H0 E (tCB r (tCons te tNil)) (b1 D f be) :=
  ⟨fun σ env F H M Q P X c q k => ha.run σ env F H M _ _ X c q fun d F1 H1 v M1 p1 x1 r1 => hr F1 H1 v _ Q _ x1.ok.ok (cv.run x1.ok r1) p1 fun z F2 H2 w p2 x2 r2 => k z F2 H2 w M1 p2 (x1.trans (x2.ex2 x1.ok)) r2⟩
theorem b_b1F {R : Rel2} {S : Rel} {D : Sto → Dat → Dat} {r : List V → Hp → VK → Prop} {f : Dat → (List Dat → Prop) → Prop} (cv : Cv R S D) (hr : UFr W S r f) (ha : BEg R W H0 E te be) : BFrs W H0 E (tCB r (tCons te tNil)) (b1F D f be) :=
  ⟨fun σ env F H M Q P X c q k => ha.run σ env F H M _ _ X c q fun d F1 H1 v M1 p1 x1 r1 => hr F1 H1 v _ Q _ x1.ok.ok (cv.run x1.ok r1) p1 fun ds F2 H2 a vs p2 x2 n nf h r => k ds F2 H2 a vs M1 p2 (x1.trans (x2.ex2 x1.ok)) (x1.there n) nf (x1.ok.new n) h r⟩
/-! arguments, displays -/
def bNil : BFr := fun _ M _ P => P [] M
def bCons (ea : BEx) (er : BFr) : BFr := fun env M X P => ea env M X fun x M1 => er env M1 X fun xs M2 => P (x :: xs) M2
theorem b_nil : BArg W H0 E 0 tNil bNil := ⟨fun _ _ F H M _ _ _ c h k => k [] F H [] M h (.refl c.st) .nil rfl⟩
theorem b_cons {n : Nat} {tr : TA} {er : BFr} (ha : BExp W H0 E ta ea) (hr : BArg W H0 E n tr er) : BArg W H0 E (n + 1) (tCons ta tr) (bCons ea er) :=
  ⟨fun σ env F H M Q P X c q k => ha.run σ env F H M _ _ X c q fun d F1 H1 v M1 p1 x1 r1 => hr.run σ env F1 H1 M1 _ _ X (c.step x1) p1 fun ds F2 H2 vs M2 p2 x2 r2 l2 =>
    k (d :: ds) F2 H2 (v :: vs) M2 p2 (x1.trans x2) (.cons (Rv.sub (x2.sub x1.ok) r1) r2) (congrArg (· + 1) l2)⟩
def bTup (ba : BFr) : BEx := fun env M X P => ba env M X fun ds M' => P (.tup ds) M'
theorem b_tup {n : Nat} {tr : TA} {ba : BFr} (h : BArg W H0 E n tr ba) (hn : n ≤ 100000 := by decide) : BExp W H0 E (tTupF tr) (bTup ba) :=
  ⟨fun σ env F H M Q P X c q k => h.run σ env F H M _ _ X c q fun ds F1 H1 vs M1 p1 x1 r1 l1 => ⟨Nat.le_of_lt (len_size (by rw [r1.length]; omega)), fun a o n tp => by
    have x2 : Ext W F1 H1 _ _ := Ext.new (o := o) x1.ok.ok n
    exact k (.tup ds) _ _ _ M1 p1 (x1.trans (x2.ex2 x1.ok)) (.tup ⟨.inr rfl, o, upd_same, tp⟩ (r1.sub (x2.sub x1.ok.ok)))⟩⟩
theorem b_lst {n : Nat} {tr : TA} {ba : BFr} (h : BArg W H0 E n tr ba) (hn : n ≤ 100000 := by decide) : BFrs W H0 E (tLst tr) ba :=
  ⟨fun σ env F H M Q P X c q k => h.run σ env F H M _ _ X c q fun ds F1 H1 vs M1 p1 x1 r1 l1 => ⟨Nat.le_of_lt (len_size (by rw [r1.length]; omega)), fun a n => by
    have x2 : Ext W F1 H1 _ _ := Ext.lay (o := .lst vs) x1.ok.ok n
    exact k ds _ _ a vs M1 p1 (x1.trans (x2.ex2 x1.ok)) (x1.there n) (fun f => x1.ok.ok.tr a f n) (x1.ok.new n) upd_same (r1.sub (x2.sub x1.ok.ok))⟩⟩
/-! tests -/
def bTest (ea : BEx) : BTs := fun env M X P => ea env M X fun x M1 => bQ x fun b => P b M1
theorem b_test (h : BExp W H0 E te be) : BTst W H0 E (tTest te) (bTest be) := ⟨fun σ env F H M Q P X c q k => h.run σ env F H M _ _ X c q fun d F1 H1 v M1 p1 x1 r1 => by
  cases r1 <;> first | exact (show False from p1).elim | exact ⟨_, rfl, k _ F1 H1 M1 p1 x1⟩⟩
theorem b_tb (h : BExp W H0 E te be) : BTst W H0 E (tB te) (bTest be) := ⟨fun σ env F H M Q P X c q k => h.run σ env F H M _ _ X c q fun d F1 H1 v M1 p1 x1 r1 => by
  cases r1 <;> first | exact (show False from p1).elim | exact ⟨_, rfl, k _ F1 H1 M1 p1 x1⟩⟩
def bNot (a : BTs) : BTs := fun env M X P => a env M X fun b M1 => P (!b) M1
theorem b_not (h : BTst W H0 E t bt) : BTst W H0 E (tNot t) (bNot bt) := ⟨fun σ env F H M Q P X c q k => h.run σ env F H M _ _ X c q fun b F1 H1 M1 p1 x1 => k _ F1 H1 M1 p1 x1⟩
def bAnd (a c : BTs) : BTs := fun env M X P => a env M X fun b M1 => two b (c env M1 X P) (P false M1)
def bOr (a c : BTs) : BTs := fun env M X P => a env M X fun b M1 => two b (P true M1) (c env M1 X P)
theorem b_and (h : BTst W H0 E t bt) (h2 : BTst W H0 E u bu) : BTst W H0 E (tAnd t u) (bAnd bt bu) := ⟨fun σ env F H M Q P X c q k => h.run σ env F H M _ _ X c q fun b F1 H1 M1 p1 x1 => by
  cases b with
  | true =>
    rw [if_pos rfl]
    exact h2.run σ env F1 H1 M1 _ _ X (c.step x1) p1 fun b F2 H2 M2 p2 x2 => k b F2 H2 M2 p2 (x1.trans x2)
  | false =>
    rw [if_neg Bool.false_ne_true]
    exact k false F1 H1 M1 p1 x1⟩
theorem b_or (h : BTst W H0 E t bt) (h2 : BTst W H0 E u bu) : BTst W H0 E (tOr t u) (bOr bt bu) := ⟨fun σ env F H M Q P X c q k => h.run σ env F H M _ _ X c q fun b F1 H1 M1 p1 x1 => by
  cases b with
  | true =>
    rw [if_pos rfl]
    exact k true F1 H1 M1 p1 x1
  | false =>
    rw [if_neg Bool.false_ne_true]
    exact h2.run σ env F1 H1 M1 _ _ X (c.step x1) p1 fun b F2 H2 M2 p2 x2 => k b F2 H2 M2 p2 (x1.trans x2)⟩
def bAndV (ea eb : BEx) : BEx := fun env M X P => ea env M X fun x M1 => bQ x fun b => two b (eb env M1 X P) (P (.bl false) M1)
def bOrV (ea eb : BEx) : BEx := fun env M X P => ea env M X fun x M1 => bQ x fun b => two b (P (.bl true) M1) (eb env M1 X P)
def bNotV (ea : BEx) : BEx := fun env M X P => ea env M X fun x M1 => bQ x fun b => P (.bl (!b)) M1
theorem b_andV (ha : BExp W H0 E ta ea) (hb : BExp W H0 E tb eb) : BExp W H0 E (tAndV ta tb) (bAndV ea eb) := ⟨fun σ env F H M Q P X c q k => ha.run σ env F H M _ _ X c q fun d F1 H1 v M1 p1 x1 r1 => by
  cases r1 with
  | bl b =>
    refine ⟨b, rfl, ?_⟩
    cases b with
    | true =>
      rw [if_pos rfl]
      exact hb.run σ env F1 H1 M1 _ _ X (c.step x1) p1 fun e F2 H2 w M2 p2 x2 r2 => k e F2 H2 w M2 p2 (x1.trans x2) r2
    | false =>
      rw [if_neg Bool.false_ne_true]
      exact k _ F1 H1 _ M1 p1 x1 (.bl false)
  | _ => exact (show False from p1).elim⟩
theorem b_orV (ha : BExp W H0 E ta ea) (hb : BExp W H0 E tb eb) : BExp W H0 E (tOrV ta tb) (bOrV ea eb) := ⟨fun σ env F H M Q P X c q k => ha.run σ env F H M _ _ X c q fun d F1 H1 v M1 p1 x1 r1 => by
  cases r1 with
  | bl b =>
    refine ⟨b, rfl, ?_⟩
    cases b with
    | true =>
      rw [if_pos rfl]
      exact k _ F1 H1 _ M1 p1 x1 (.bl true)
    | false =>
      rw [if_neg Bool.false_ne_true]
      exact hb.run σ env F1 H1 M1 _ _ X (c.step x1) p1 fun e F2 H2 w M2 p2 x2 r2 => k e F2 H2 w M2 p2 (x1.trans x2) r2
  | _ => exact (show False from p1).elim⟩
theorem b_notV (ha : BExp W H0 E ta ea) : BExp W H0 E (tNotV ta) (bNotV ea) := ⟨fun σ env F H M Q P X c q k => ha.run σ env F H M _ _ X c q fun d F1 H1 v M1 p1 x1 r1 => by
  cases r1 with
  | bl b => exact ⟨b, rfl, k _ F1 H1 _ M1 p1 x1 (.bl _)⟩
  | _ => exact (show False from p1).elim⟩
def bIf (c : BTs) (ea eb : BEx) : BEx := fun env M X P => c env M X fun b M1 => two b (ea env M1 X P) (eb env M1 X P)
theorem b_if (h : BTst W H0 E t bt) (ha : BExp W H0 E ta ea) (hb : BExp W H0 E tb eb) : BExp W H0 E (tIf t ta tb) (bIf bt ea eb) := ⟨fun σ env F H M Q P X c q k => h.run σ env F H M _ _ X c q fun b F1 H1 M1 p1 x1 => by
  cases b with
  | true =>
    rw [if_pos rfl]
    exact ha.run σ env F1 H1 M1 _ _ X (c.step x1) p1 fun e F2 H2 w M2 p2 x2 r2 => k e F2 H2 w M2 p2 (x1.trans x2) r2
  | false =>
    rw [if_neg Bool.false_ne_true]
    exact hb.run σ env F1 H1 M1 _ _ X (c.step x1) p1 fun e F2 H2 w M2 p2 x2 r2 => k e F2 H2 w M2 p2 (x1.trans x2) r2⟩
end
/-! calls of what is promised over data -/
def bCall (asp : ASp) (ba : BFr) : BEx := fun env M X P => ba env M X fun ds M' => asp ds fun d => P d M'
def bCallF (asp : ASpF) (ba : BFr) : BFr := fun env M X P => ba env M X fun ds M' => asp ds fun d => P d M'
section
variable {K : PySem.W.Frag} {ca : Nat → Addr} {po : Option (Addr × Addr)} {H0 : Hp} {E : XS}
theorem b_call {n : Nat} {E' : XK} {t : TA} {ba : BFr} {asp : ASp} (h : BArg ⟨K, ca, po⟩ H0 E n t ba) : BExp ⟨K, ca, po⟩ H0 E (tCall (toSp K ca asp) [] E' t) (bCall asp ba) :=
  ⟨fun σ env F H M Q P X c q k => h.run σ env F H M _ _ X c q fun ds F1 H1 vs M1 p1 x1 r1 _ => by
    rw [List.append_nil]
    exact ⟨po, F1, ds, _, x1.ok.ok, r1, p1, fun d F' H' v p x r => k d F' H' v M1 p (x1.trans (x.ex2 x1.ok)) r⟩⟩
theorem b_callF {n : Nat} {E' : XK} {t : TA} {ba : BFr} {asp : ASpF} (h : BArg ⟨K, ca, po⟩ H0 E n t ba) : BFrs ⟨K, ca, po⟩ H0 E (tCall (toSpF K ca asp) [] E' t) (bCallF asp ba) :=
  ⟨fun σ env F H M Q P X c q k => h.run σ env F H M _ _ X c q fun ds F1 H1 vs M1 p1 x1 r1 _ => by
    rw [List.append_nil]
    exact ⟨po, F1, ds, _, x1.ok.ok, r1, p1, fun d F' H' a ws p x n nf ha r => k d F' H' a ws M1 p (x1.trans (x.ex2 x1.ok)) (x1.there n) nf (x1.ok.new n) ha r⟩⟩
end

/-! ### comprehensions, statements over data and cells -/
def X0 : XD := fun _ _ _ => False
theorem XOk.zero {W : Wd} {F : Addr → Prop} {H : Hp} {M : Sto} {E : XK} : XOk W F H M E X0 := fun _ _ _ _ _ _ _ _ _ h => h.elim
theorem Cfg.zero {W : Wd} {H0 : Hp} {E : XS} {F : Addr → Prop} {H : Hp} {M : Sto} {σ : L2.St} {env : List Sl} {X : XD} (c : Cfg W H0 E F H M σ env X) : Cfg W H0 E F H M σ env X0 := ⟨c.st, c.m, .zero⟩
def lcB (el : Dat → Sto → (Option Dat → Sto → Prop) → Prop) (P : List Dat → Sto → Prop) : List Dat → List Dat → Sto → Prop
  | [], acc, M => P acc M
  | d :: ds, acc, M => el d M fun o M' => match o with
    | some y => lcB el P ds (acc ++ [y]) M'
    | none => lcB el P ds acc M'
def elB (ag : ATg) (bt : BTs) (eb : BEx) (env : List Sl) : Dat → Sto → (Option Dat → Sto → Prop) → Prop := fun d M P => ag d env fun env2 => bt env2 M X0 fun b M1 => two b (eb env2 M1 X0 fun y M2 => P (some y) M2) (P none M1)
def bLc (bi : BFr) (ag : ATg) (bt : BTs) (eb : BEx) (vs : List Nat) : BFr := fun env M X P => bi env M X fun ds M1 => ds.length ≤ 100000 ∧ lcB (elB ag bt eb (wipeA env vs)) P ds [] M1
def bYes : BTs := fun _ M _ P => P true M
theorem b_yes {W : Wd} {H0 : Hp} {E : XS} : BTst W H0 E tYes bYes := ⟨fun _ _ F H M _ _ _ c h k => k true F H M h (.refl c.st)⟩
theorem b_lc {W : Wd} {H0 : Hp} {E : XS} {wi : TI} {g : TG} {tt : TT} {te : TE} {vs : List Nat} {bi : BFr} {ag : ATg} {bt : BTs} {eb : BEx} (hi : BIter W H0 E wi bi) (hg : ∀ H0, ATgt W H0 vs g ag) (ht : BTst W H0 E tt bt) (he : BExp W H0 E te eb) :
    BFrs W H0 E (tLc wi g tt te vs) (bLc bi ag bt eb vs) := ⟨fun σ env F H M Q P X c q k => hi.run σ env F H M _ _ X c q fun ds F1 H1 J M1 p1 x1 itk => by
  intro D hD
  obtain ⟨sz, p1⟩ := p1
  have st1 := x1.ok
  have c1 := c.step x1
  have np : NPc W D := st1.ok.pne hD
  refine ⟨fun i n H' => n + i = ds.length ∧ ∃ F' M' acc ys, Ex2 W F1 H1 M1 F' H' M' ∧ ¬ F' D ∧ M' D = none ∧ H' D = some (.lst acc) ∧ RvAll W F' H' acc ys ∧ ys.length ≤ i ∧ lcB (elB ag bt eb (wipeA env vs)) P (ds.drop i) ys M',
    ⟨ds.length, rfl, F1, M1, [], [], (Ext.lay st1.ok hD).ex2 st1, fun f => st1.ok.tr D f hD, st1.new hD, upd_same, .nil, Nat.le_refl _, p1⟩, ?_⟩
  rintro i n H2 ⟨hn, F2, M2, acc, ys, x2, nf, m2, hA, r2, ly, p2⟩
  have st2 := x2.ok
  by_cases hlt : i < ds.length
  · have hd : ds[i]? = some ds[i] := List.getElem?_eq_getElem hlt
    obtain ⟨go, yl⟩ := itk.it F2 H2 st2.ok (x2.sub st1) i _ hd
    rw [List.drop_eq_getElem_cons hlt] at p2
    refine .inr ⟨go, fun H' => ∃ F' M' acc ys, Ex2 W F1 H1 M1 F' H' M' ∧ ¬ F' D ∧ M' D = none ∧ H' D = some (.lst acc) ∧ RvAll W F' H' acc ys ∧ ys.length ≤ i + 1 ∧ lcB (elB ag bt eb (wipeA env vs)) P (ds.drop (i + 1)) ys M',
      fun H' ⟨F', M', acc, ys, rest⟩ => ⟨n - 1, by omega, by omega, F', M', acc, ys, rest⟩, fun x H3 y => ?_⟩
    obtain ⟨F3, x3, rx⟩ := yl x H3 y
    have x3 := x3.ex2 st2
    have x13 := x2.trans x3
    have c3 := c1.step x13
    refine (hg _).run x _ _ _ F3 H3 _ _ x3.ok.ok (c3.m.wipe vs) rx p2 fun env4 σ4 p4 m4 w4 => ?_
    have c4 : Cfg W H0 E F3 H3 M2 σ4 env4 X0 := ⟨x3.ok, m4, .zero⟩
    refine ⟨w4.trans (wipe_wipe σ vs), ht.run σ4 env4 F3 H3 M2 _ _ X0 c4 p4 fun b F5 H5 M5 p5 x5 => ?_⟩
    obtain ⟨nf3, h3, m3⟩ := x3.own nf hA m2 np
    obtain ⟨nf5, h5, m5⟩ := x5.own nf3 h3 m3 np
    have x35 := x3.trans x5
    have x15 := x2.trans x35
    cases b with
    | true =>
      rw [if_pos rfl]
      refine he.run σ4 env4 F5 H5 M5 _ _ X0 (c4.step x5) p5 fun e F6 H6 v M6 p6 x6 r6 => ?_
      obtain ⟨nf6, h6, m6⟩ := x6.own nf5 h5 m5 np
      have x16 := x15.trans x6
      have r26 := r2.sub ((x35.trans x6).sub st2)
      have sb : Sub F6 H6 F6 (upd H6 D (.lst (acc ++ [v]))) := fun a f => ⟨f, upd_ne (fun z => nf6 (by rw [← z]; exact f))⟩
      refine ⟨acc, h6, len_size (by rw [r2.length]; omega), F6, M6, _, ys ++ [e], ⟨x16.up, x16.dn, fun a o ha npa hm => ?_, fun a h => ?_, x16.md, x16.ok.upd_own nf6 m6 np⟩, nf6, m6, upd_same, (r26.append (.cons (show Rv W F6 H6 v e from r6) .nil)).sub sb, by rw [List.length_append]; exact Nat.succ_le_succ ly, p6⟩
      · rw [upd_ne (ne_of_none ha hD)]
        exact x16.kp a o ha npa hm
      · by_cases z : a = D
        · rw [z, upd_same]
          exact fun z => by cases z
        · rw [upd_ne z]
          exact x16.al a h
    | false =>
      rw [if_neg Bool.false_ne_true]
      exact ⟨F5, M5, acc, ys, x15, nf5, m5, h5, r2.sub (x35.sub st2), by omega, p5⟩
  · have e : i = ds.length := by omega
    subst e
    rw [List.drop_length] at p2
    exact .inl ⟨itk.done F2 H2 st2.ok (x2.sub st1), k ys F2 H2 D acc M2 p2 (x1.trans x2) (x1.there hD) nf m2 hA r2⟩⟩
structure BEnds where
  nx : List Sl → Sto → Prop
  rt : Dat → Sto → Prop
  bk : List Sl → Sto → Prop := fun _ _ => False
  ct : List Sl → Sto → Prop := fun _ _ => False
  ex : List Sl → XD := fun _ => X0
abbrev BSt := BEnds → List Sl → Sto → Prop
structure Bse2 (W : Wd) (F0 : Addr → Prop) (H0 : Hp) (M0 : Sto) (F1 : Addr → Prop) (H1 : Hp) (F : Addr → Prop) (H : Hp) (M : Sto) : Prop where
  ex : Ex2 W F0 H0 M0 F H M
  sb : Sub F1 H1 F H
structure EndsOk2 (W : Wd) (E : XS) (F0 : Addr → Prop) (H0 : Hp) (M0 : Sto) (F1 : Addr → Prop) (H1 : Hp) (De : Ends) (Da : BEnds) : Prop where
  nx : ∀ σ env F H M, Bse2 W F0 H0 M0 F1 H1 F H M → Mt2 W H0 F H M σ env → Da.nx env M → De.nx σ H
  rt : ∀ v d F H M, Bse2 W F0 H0 M0 F1 H1 F H M → Rv W F H v d → Da.rt d M → De.rt v H
  bk : ∀ σ env F H M, Bse2 W F0 H0 M0 F1 H1 F H M → Mt2 W H0 F H M σ env → Da.bk env M → De.bk σ H
  ct : ∀ σ env F H M, Bse2 W F0 H0 M0 F1 H1 F H M → Mt2 W H0 F H M σ env → Da.ct env M → De.ct σ H
  ex : ∀ σ env F H M, Bse2 W F0 H0 M0 F1 H1 F H M → Mt2 W H0 F H M σ env → XOk W F H M (E σ) (Da.ex env)
/-- where a statement begins -/
structure BCf (W : Wd) (F0 : Addr → Prop) (H0 : Hp) (M0 : Sto) (F1 : Addr → Prop) (H1 : Hp) (F : Addr → Prop) (H : Hp) (M : Sto) (σ : L2.St) (env : List Sl) : Prop where
  b : Bse2 W F0 H0 M0 F1 H1 F H M
  m : Mt2 W H0 F H M σ env
structure BStm (W : Wd) (E : XS) (ts : TS) (bs : BSt) : Prop where
  run : ∀ (F0 : Addr → Prop) (H0 : Hp) (M0 : Sto) (F1 : Addr → Prop) (H1 : Hp) (De : Ends) (Da : BEnds) (σ : L2.St) (env : List Sl) (F : Addr → Prop) (H : Hp) (M : Sto), BCf W F0 H0 M0 F1 H1 F H M σ env → EndsOk2 W E F0 H0 M0 F1 H1 De Da → bs Da env M → ts De σ H
section
variable {W : Wd} {E : XS} {F0 F1 F F' : Addr → Prop} {H0 H1 H H' : Hp} {M0 M M' : Sto} {σ : L2.St} {env : List Sl}
theorem BCf.cfg {De : Ends} {Da : BEnds} (c : BCf W F0 H0 M0 F1 H1 F H M σ env) (k : EndsOk2 W E F0 H0 M0 F1 H1 De Da) : Cfg W H0 E F H M σ env (Da.ex env) := ⟨c.b.ex.ok, c.m, k.ex σ env F H M c.b c.m⟩
theorem BCf.step (c : BCf W F0 H0 M0 F1 H1 F H M σ env) (x : Ex2 W F H M F' H' M') : BCf W F0 H0 M0 F1 H1 F' H' M' σ env := ⟨⟨c.b.ex.trans x, c.b.sb.trans (x.sub c.b.ex.ok)⟩, c.m.ex2 c.b.ex.ok x⟩
theorem EndsOk2.mono {De : Ends} {Da : BEnds} (s : Sub F1 H1 F H) (k : EndsOk2 W E F0 H0 M0 F1 H1 De Da) : EndsOk2 W E F0 H0 M0 F H De Da :=
  ⟨fun σ env F H M b => k.nx σ env F H M ⟨b.ex, s.trans b.sb⟩, fun v d F H M b => k.rt v d F H M ⟨b.ex, s.trans b.sb⟩, fun σ env F H M b => k.bk σ env F H M ⟨b.ex, s.trans b.sb⟩, fun σ env F H M b => k.ct σ env F H M ⟨b.ex, s.trans b.sb⟩, fun σ env F H M b => k.ex σ env F H M ⟨b.ex, s.trans b.sb⟩⟩
end
def zNext : BSt := fun D env M => D.nx env M
def zSeq (a b : BSt) : BSt := fun D env M => a { D with nx := b D } env M
def zCut (a b : BSt) : BSt := fun D env M => ∃ Mid : List Sl → Sto → Prop, a { D with nx := Mid } env M ∧ ∀ env' M', Mid env' M' → b D env' M'
def zIf (c : BTs) (a b : BSt) : BSt := fun D env M => c env M (D.ex env) fun t M1 => two t (a D env M1) (b D env M1)
def zAsg (ea : BEx) (g : ATg) : BSt := fun D env M => ea env M (D.ex env) fun d M1 => g d env fun env2 => D.nx env2 M1
def zSetO (i : Nat) (af : BFr) : BSt := fun D env M => af env M (D.ex env) fun ds M1 => D.nx (env.set i (.o ds)) M1
def zRet (ea : BEx) : BSt := fun D env M => ea env M (D.ex env) D.rt
def zRetN : BSt := fun D _ M => D.rt .non M
def zDrop (ea : BEx) : BSt := fun D env M => ea env M (D.ex env) fun _ M1 => D.nx env M1
def zPar (i j : Nat) (ba : BFr) : BSt := fun D env M => ba env M (D.ex env) fun ds M1 => match ds with
  | [x, y] => D.nx ((env.set i (.d x)).set j (.d y)) M1
  | _ => False
def zApp (i : Nat) (ea : BEx) : BSt := fun D env M => oQ2 (dAt env i) fun xs => xs.length < 100000 ∧ ea env M (D.ex env) fun d M1 => D.nx (env.set i (.o (xs ++ [d]))) M1
def zFz (i : Nat) (a : BSt) : BSt := fun D env M => oQ2 (dAt env i) fun xs => a D (env.set i (.d (.lst xs))) M
def zAug (i : Nat) (ea : BEx) (f : Dat → Dat → (Dat → Prop) → Prop) : BSt := fun D env M => dQ (dAt env i) fun x => ea env M (D.ex env) fun y M1 => f x y fun z => D.nx (env.set i (.d z)) M1
def forB (g : ATg) (b : BSt) (D : BEnds) : List Dat → List Sl → Sto → Prop
  | [], env, M => D.nx env M
  | d :: ds, env, M => g d env fun env2 => b { D with nx := forB g b D ds, ct := forB g b D ds, bk := D.nx } env2 M
def zFor (bi : BFr) (g : ATg) (b : BSt) : BSt := fun D env M => bi env M (D.ex env) fun ds M1 => forB g b D ds env M1
/-- what a list's cell holds -/
def cQ (o : Option Ce) (P : List Dat → Prop) : Prop := match o with
  | some (.lst xs) => P xs
  | _ => False
def ceQ : Dat → (Addr → Prop) → Prop
  | .cell a, P => P a
  | _, _ => False
def inQ : Dat → (Int → Prop) → Prop
  | .int j, P => P j
  | _, _ => False
/-- x.append(e), x a cell -/
def zAppC (eo ea : BEx) : BSt := fun D env M => eo env M (D.ex env) fun x M1 => ceQ x fun a => cQ (M1 a) fun _ => ea env M1 (D.ex env) fun d M2 => cQ (M2 a) fun ys => ys.length < 100000 ∧ D.nx env (M2.put a (some (.lst (ys ++ [d]))))
/-- x[i] = e, x a cell -/
def zPutC (ev eo ei : BEx) : BSt := fun D env M => ev env M (D.ex env) fun d M1 => eo env M1 (D.ex env) fun x M2 => ei env M2 (D.ex env) fun i M3 => ceQ x fun a => inQ i fun j => cQ (M3 a) fun ys => ∃ k, ixN ys.length j = some k ∧ D.nx env (M3.put a (some (.lst (ys.set k d))))
/-- x[i] = e, x a list of the def's own -/
def zPutO (s : Nat) (ev ei : BEx) : BSt := fun D env M => oQ2 (dAt env s) fun ys => ev env M (D.ex env) fun d M1 => ei env M1 (D.ex env) fun i M2 => inQ i fun j => ∃ k, ixN ys.length j = some k ∧ D.nx (env.set s (.o (ys.set k d))) M2
section
variable {W : Wd} {E : XS} {ts tu : TS} {bs bu : BSt}
theorem z_next : BStm W E tNext zNext := ⟨fun F0 H0 M0 F1 H1 De Da σ env F H M c k h => k.nx σ env F H M c.b c.m h⟩
theorem z_seq (h1 : BStm W E ts bs) (h2 : BStm W E tu bu) : BStm W E (tSeq ts tu) (zSeq bs bu) := ⟨fun F0 H0 M0 F1 H1 De Da σ env F H M c k h =>
  h1.run F0 H0 M0 F1 H1 { De with nx := tu De } { Da with nx := bu Da } σ env F H M c ⟨fun σ env F H M b m h => h2.run F0 H0 M0 F1 H1 De Da σ env F H M ⟨b, m⟩ k h, k.rt, k.bk, k.ct, k.ex⟩ h⟩
theorem z_cut (h1 : BStm W E ts bs) (h2 : BStm W E tu bu) : BStm W E (C8.tCut ts tu) (zCut bs bu) := ⟨fun F0 H0 M0 F1 H1 De Da σ env F H M c k ⟨Mid, h, q⟩ =>
  ⟨fun σ' H' => ∃ env' F' M', BCf W F0 H0 M0 F1 H1 F' H' M' σ' env' ∧ Mid env' M', h1.run F0 H0 M0 F1 H1 _ { Da with nx := Mid } σ env F H M c ⟨fun σ env F H M b m h => ⟨env, F, M, ⟨b, m⟩, h⟩, k.rt, k.bk, k.ct, k.ex⟩ h,
    fun σ' H' ⟨env', F', M', c', hm⟩ => h2.run F0 H0 M0 F1 H1 De Da σ' env' F' H' M' c' k (q env' M' hm)⟩⟩
theorem z_if {t : TT} {cb : BTs} (ht : ∀ H0, BTst W H0 E t cb) (h1 : BStm W E ts bs) (h2 : BStm W E tu bu) : BStm W E (tIfS t ts tu) (zIf cb bs bu) := ⟨fun F0 H0 M0 F1 H1 De Da σ env F H M c k h =>
  (ht H0).run σ env F H M _ _ _ (c.cfg k) h fun t F' H' M' p x => by
    cases t with
    | true =>
      rw [if_pos rfl]
      exact h1.run F0 H0 M0 F1 H1 De Da σ env F' H' M' (c.step x) k p
    | false =>
      rw [if_neg Bool.false_ne_true]
      exact h2.run F0 H0 M0 F1 H1 De Da σ env F' H' M' (c.step x) k p⟩
theorem z_asg {te : TE} {ea : BEx} {g : TG} {ag : ATg} {vs : List Nat} (he : ∀ H0, BExp W H0 E te ea) (hg : ∀ H0, ATgt W H0 vs g ag) : BStm W E (tAsg te g) (zAsg ea ag) := ⟨fun F0 H0 M0 F1 H1 De Da σ env F H M c k h =>
  (he H0).run σ env F H M _ _ _ (c.cfg k) h fun d F' H' v M' p x r => (hg _).run v d σ env F' H' _ _ x.ok.ok (c.step x).m r p fun env' σ' p' m' _ => k.nx σ' env' F' H' M' (c.step x).b m' p'⟩
theorem z_set {te : TE} {ea : BEx} {i : Nat} (he : ∀ H0, BExp W H0 E te ea) : BStm W E (tAsg te (gName i)) (zAsg ea (gA i)) := z_asg (vs := [i]) he fun _ => g_name List.mem_cons_self
theorem z_ret {te : TE} {ea : BEx} (he : ∀ H0, BExp W H0 E te ea) : BStm W E (tRet te) (zRet ea) := ⟨fun F0 H0 M0 F1 H1 De Da σ env F H M c k h =>
  (he H0).run σ env F H M _ _ _ (c.cfg k) h fun d F' H' v M' p x r => k.rt v d F' H' M' (c.step x).b r p⟩
theorem z_retN : BStm W E tRetN zRetN := ⟨fun F0 H0 M0 F1 H1 De Da σ env F H M c k h => k.rt .non .non F H M c.b .non h⟩
theorem z_drop {te : TE} {ea : BEx} (he : ∀ H0, BExp W H0 E te ea) : BStm W E (tDrop te) (zDrop ea) := ⟨fun F0 H0 M0 F1 H1 De Da σ env F H M c k h =>
  (he H0).run σ env F H M _ _ _ (c.cfg k) h fun d F' H' v M' p x r => k.nx σ env F' H' M' (c.step x).b (c.step x).m p⟩
theorem z_par {i j : Nat} {t : TA} {ba : BFr} (he : ∀ H0, BArg W H0 E 2 t ba) : BStm W E (tPar i j t) (zPar i j ba) := ⟨fun F0 H0 M0 F1 H1 De Da σ env F H M c k h =>
  (he H0).run σ env F H M _ _ _ (c.cfg k) h fun ds F' H' vs M' p x r l => by
    match ds, l, p, r with
    | [d, e], _, p, .cons r1 (.cons r2 .nil) =>
      exact ⟨_, _, rfl, k.nx _ _ F' H' M' (c.step x).b (((c.step x).m.setD i r1).setD j r2) p⟩⟩
theorem z_setO {te : TE} {af : BFr} {i : Nat} (he : ∀ H0, BFrs W H0 E te af) : BStm W E (tAsg te (gName i)) (zSetO i af) := ⟨fun F0 H0 M0 F1 H1 De Da σ env F H M c k h =>
  (he H0).run σ env F H M _ _ _ (c.cfg k) h fun ds F' H' a vs M' p x n nf m hA r => by
    refine k.nx _ _ F' H' M' (c.step x).b ((c.step x).m.setO i nf (mask_none.mpr ⟨m, c.b.ex.there n⟩) hA r (c.b.ex.ok.ok.pne n) fun j xs hj e z => ?_) p
    obtain ⟨ov, e1, b', ws, e2, _, _, hb, _⟩ := c.m.at_ j _ e
    rw [z] at e1
    cases e1
    cases e2
    rw [n] at hb
    cases hb⟩
/-- a list of the def's own is changed -/
theorem z_own {F0 F1 F : Addr → Prop} {H0 H1 H : Hp} {M0 M : Sto} {σ : L2.St} {env : List Sl} (c : BCf W F0 H0 M0 F1 H1 F H M σ env) {i : Nat} {xs ys : List Dat} {a : Addr} {ws : List V} (e : env[i]? = some (.o xs)) (es : σ[i]? = some (some (.ref a)))
    (nf : ¬ F a) (m0 : M a = none) (n0 : H0 a = none) (np : NPc W a) (r : RvAll W F H ws ys) : BCf W F0 H0 M0 F1 H1 F (upd H a (.lst ws)) M σ (env.set i (.o ys)) := by
  have sb : Sub F H F (upd H a (.lst ws)) := fun c f => ⟨f, upd_ne (fun z => nf (by rw [← z]; exact f))⟩
  have m := c.m
  refine ⟨⟨⟨c.b.ex.up, c.b.ex.dn, fun b o hc npc hm => ?_, fun b h => ?_, c.b.ex.md, c.b.ex.ok.upd_own nf m0 np⟩, c.b.sb.trans sb⟩, ?_⟩
  · rw [upd_ne (ne_of_none hc n0)]
    exact c.b.ex.kp b o hc npc hm
  · by_cases z : b = a
    · rw [z, upd_same]
      exact fun z => by cases z
    · rw [upd_ne z]
      exact c.b.ex.al b h
  · have hl : i < env.length := (List.getElem?_eq_some_iff.mp e).1
    refine ⟨by rw [List.length_set, m.ln], fun j s ej => ?_, fun j k us vs c e1 e2 e3 e4 => ?_⟩
    · by_cases h : j = i
      · subst h
        rw [List.getElem?_set_self hl] at ej
        cases ej
        exact ⟨_, es, a, ws, rfl, nf, mask_none.mpr ⟨m0, n0⟩, upd_same, r.sub sb, np⟩
      · rw [List.getElem?_set_ne (Ne.symm h)] at ej
        obtain ⟨ov, eo, so⟩ := m.at_ j s ej
        refine ⟨ov, eo, ?_⟩
        cases s with
        | u => trivial
        | d x =>
          obtain ⟨v, ev, rv⟩ := so
          exact ⟨v, ev, rv.sub sb⟩
        | o us =>
          obtain ⟨c, vs, ec, nfc, n0c, hc, rc, npc⟩ := so
          subst ec
          have hca : c ≠ a := fun z => h (m.own j i us xs c ej e eo (by rw [z]; exact es))
          exact ⟨c, vs, rfl, nfc, n0c, by rw [upd_ne hca]; exact hc, rc.sub sb, npc⟩
    · have old : ∀ {j : Nat} {us : List Dat}, (env.set i (.o ys))[j]? = some (.o us) → ∃ us', env[j]? = some (.o us') := fun {j us} ej => by
        by_cases h : j = i
        · subst h
          exact ⟨_, e⟩
        · rw [List.getElem?_set_ne (Ne.symm h)] at ej
          exact ⟨_, ej⟩
      obtain ⟨_, e1⟩ := old e1
      obtain ⟨_, e2⟩ := old e2
      exact m.own j k _ _ c e1 e2 e3 e4
theorem z_app {te : TE} {ea : BEx} {i : Nat} (he : ∀ H0, BExp W H0 E te ea) : BStm W E (tDrop (tBM W.K "list" rAppend (tVar i) (tCons te tNil))) (zApp i ea) := ⟨fun F0 H0 M0 F1 H1 De Da σ env F H M c k h => by
  obtain ⟨xs, a, vs, ⟨hl, h⟩, e, es, nf, n0, hA, r, np⟩ := own_at c.m h
  obtain ⟨m0, n0⟩ := mask_none.mp n0
  refine ⟨_, es, .inl ⟨rfl, vs, SqL.of hA⟩, ?_⟩
  refine (he H0).run σ env F H M _ _ _ (c.cfg k) h fun d F' H' v M' p x rv => ?_
  obtain ⟨nf', hA', m'⟩ := x.own nf hA m0 np
  have r' := r.sub (x.sub c.b.ex.ok)
  have c2 := z_own (c.step x) e es nf' m' n0 np (r'.append (.cons (show Rv W F' H' v d from rv) .nil))
  exact ⟨a, vs, v, rfl, rfl, hA', len_size (by rw [r.length]; omega), k.nx _ _ _ _ M' c2.b c2.m p⟩⟩
theorem z_fz {i : Nat} (h1 : BStm W E ts bs) : BStm W E ts (zFz i bs) := ⟨fun F0 H0 M0 F1 H1 De Da σ env F H M c k h => by
  obtain ⟨xs, a, vs, h, e, es, nf, n0, hA, r, np⟩ := own_at c.m h
  obtain ⟨m0, n0⟩ := mask_none.mp n0
  have m := c.m
  have hn : H a ≠ none := by rw [hA]; exact fun z => by cases z
  have sb : Sub F H (fun c => F c ∨ c = a) H := sub_fz a
  refine h1.run F0 H0 M0 F1 H1 De Da σ (env.set i (.d (.lst xs))) (fun c => F c ∨ c = a) H M ⟨⟨⟨fun b f => .inl (c.b.ex.up b f), fun b f => ?_, c.b.ex.kp, c.b.ex.al, c.b.ex.md, c.b.ex.ok.fz hn m0 np⟩, c.b.sb.trans sb⟩, ?_⟩ k h
  · rcases f with f | rfl
    · exact c.b.ex.dn b f
    · exact .inr (.inl n0)
  have hl : i < env.length := (List.getElem?_eq_some_iff.mp e).1
  refine ⟨by rw [List.length_set, m.ln], fun j s ej => ?_, fun j l us ws c e1 e2 e3 e4 => ?_⟩
  · by_cases h : j = i
    · subst h
      rw [List.getElem?_set_self hl] at ej
      cases ej
      exact ⟨_, es, _, rfl, .lst (.inr rfl) hA (r.sub sb)⟩
    · rw [List.getElem?_set_ne (Ne.symm h)] at ej
      obtain ⟨ov, eo, so⟩ := m.at_ j s ej
      refine ⟨ov, eo, ?_⟩
      cases s with
      | u => trivial
      | d x =>
        obtain ⟨v, ev, rv⟩ := so
        exact ⟨v, ev, rv.sub sb⟩
      | o us =>
        obtain ⟨c, vs, ec, nfc, n0c, hc, rc, npc⟩ := so
        subst ec
        exact ⟨c, vs, rfl, fun f => by
          rcases f with f | f
          · exact nfc f
          · exact h (m.own j i us xs c ej e eo (by rw [f]; exact es)), n0c, hc, rc.sub sb, npc⟩
  · have ne : ∀ {j : Nat} {us : List Dat}, (env.set i (.d (.lst xs)))[j]? = some (.o us) → j ≠ i := fun {j us} ej z => by
      subst z
      rw [List.getElem?_set_self hl] at ej
      cases ej
    have a1 := ne e1
    have a2 := ne e2
    rw [List.getElem?_set_ne (Ne.symm a1)] at e1
    rw [List.getElem?_set_ne (Ne.symm a2)] at e2
    exact m.own j l us ws c e1 e2 e3 e4⟩
theorem z_aug {te : TE} {ea : BEx} {i : Nat} {r : TIp} {f : Dat → Dat → (Dat → Prop) → Prop} (hr : ROk W Rv Rv Rv r f) (he : ∀ H0, BExp W H0 E te ea) : BStm W E (tAug i te r) (zAug i ea f) := ⟨fun F0 H0 M0 F1 H1 De Da σ env F H M c k h => by
  have h : dQ (dAt env i) _ := h
  cases e : dAt env i with
  | d x =>
    rw [e] at h
    obtain ⟨_, e1, v, rfl, rx⟩ := c.m.at_ i _ (dAt_get e (fun z => by cases z))
    refine ⟨v, e1, ?_⟩
    refine (he H0).run σ env F H M _ _ _ (c.cfg k) h fun d F' H' u M' p x ru => ?_
    refine hr F' H' v u _ d _ _ x.ok.ok (rx.sub (x.sub c.b.ex.ok)) ru p fun z F2 H2 w pz x2 rz => ?_
    have c2 := (c.step x).step (x2.ex2 x.ok)
    exact k.nx _ _ F2 H2 M' c2.b (c2.m.setD i rz) pz
  | u =>
    rw [e] at h
    exact h.elim
  | o xs =>
    rw [e] at h
    exact h.elim⟩
theorem z_for {wi : TI} {bi : BFr} {g : TG} {ag : ATg} {vs : List Nat} (hi : ∀ H0, BIter W H0 E wi bi) (hg : ∀ H0, ATgt W H0 vs g ag) (hb : BStm W E ts bs) : BStm W E (tFor wi g ts) (zFor bi ag bs) := ⟨fun F0 H0 M0 F1 H1 De Da σ env F H M c k h =>
  (hi H0).run σ env F H M _ _ _ (c.cfg k) h fun ds Fa Ha J Ma p1 x1 itk => by
  have c1 := c.step x1
  refine ⟨fun i n σ' H' => n + i = ds.length ∧ ∃ env' F' M', BCf W F0 H0 M0 F1 H1 F' H' M' σ' env' ∧ Sub Fa Ha F' H' ∧ forB ag bs Da (ds.drop i) env' M', ⟨ds.length, rfl, env, Fa, Ma, c1, Sub.refl Fa Ha, p1⟩, ?_⟩
  rintro i n σ2 H2 ⟨hn, env2, F2, M2, c2, s2, p2⟩
  by_cases hlt : i < ds.length
  · have hd : ds[i]? = some ds[i] := List.getElem?_eq_getElem hlt
    obtain ⟨go, yl⟩ := itk.it F2 H2 c2.b.ex.ok.ok s2 i _ hd
    rw [List.drop_eq_getElem_cons hlt] at p2
    refine .inr ⟨go, fun σ' H' => ∃ env' F' M', BCf W F0 H0 M0 F1 H1 F' H' M' σ' env' ∧ Sub Fa Ha F' H' ∧ forB ag bs Da (ds.drop (i + 1)) env' M',
      fun σ' H' ⟨env', F', M', rest⟩ => ⟨n - 1, by omega, by omega, env', F', M', rest⟩, fun x H3 y => ?_⟩
    obtain ⟨F3, x3, rx⟩ := yl x H3 y
    have x3 := x3.ex2 c2.b.ex.ok
    have c3 := c2.step x3
    have s3 := s2.trans (x3.sub c2.b.ex.ok)
    refine (hg _).run x _ σ2 env2 F3 H3 _ _ x3.ok.ok c3.m rx p2 fun env4 σ4 p4 m4 _ => ?_
    exact hb.run F0 H0 M0 F3 H3 _ { Da with nx := forB ag bs Da (ds.drop (i + 1)), ct := forB ag bs Da (ds.drop (i + 1)), bk := Da.nx } σ4 env4 F3 H3 M2 ⟨⟨c3.b.ex, Sub.refl _ _⟩, m4⟩
      ⟨fun σ env F H M b m h => ⟨env, F, M, ⟨⟨b.ex, c3.b.sb.trans b.sb⟩, m⟩, s3.trans b.sb, h⟩, fun v d F H M b => k.rt v d F H M ⟨b.ex, c3.b.sb.trans b.sb⟩, fun σ env F H M b => k.nx σ env F H M ⟨b.ex, c3.b.sb.trans b.sb⟩,
        fun σ env F H M b m h => ⟨env, F, M, ⟨⟨b.ex, c3.b.sb.trans b.sb⟩, m⟩, s3.trans b.sb, h⟩, fun σ env F H M b => k.ex σ env F H M ⟨b.ex, c3.b.sb.trans b.sb⟩⟩ p4
  · have e : i = ds.length := by omega
    subst e
    rw [List.drop_length] at p2
    exact .inl ⟨itk.done F2 H2 c2.b.ex.ok.ok s2, k.nx σ2 env2 F2 H2 M2 c2.b c2.m p2⟩⟩
/-! cells are changed -/
theorem cQ_at {o : Option Ce} {P : List Dat → Prop} (h : cQ o P) : ∃ xs, o = some (.lst xs) ∧ P xs := by
  cases o with
  | none => exact h.elim
  | some c =>
    cases c with
    | lst xs => exact ⟨xs, rfl, h⟩
    | obj _ _ => exact h.elim
    | dK _ => exact h.elim
    | xd _ _ => exact h.elim
theorem rv_cell {F : Addr → Prop} {H : Hp} {v : V} {a : Addr} (r : Rv W F H v (.cell a)) : v = .ref a := by
  cases r
  rfl
theorem z_appC {to te : TE} {eo ea : BEx} (ho : ∀ H0, BExp W H0 E to eo) (he : ∀ H0, BExp W H0 E te ea) : BStm W E (tDrop (tBM W.K "list" rAppend to (tCons te tNil))) (zAppC eo ea) := ⟨fun F0 H0 M0 F1 H1 De Da σ env F H M c k h => by
  refine (ho H0).run σ env F H M _ _ _ (c.cfg k) h fun d Fa Ha v Ma p x rv => ?_
  cases d with
  | cell a =>
    have e := rv_cell rv
    subst e
    obtain ⟨xs, hM, p⟩ := cQ_at p
    obtain ⟨nf, np, vs, hA, r⟩ := x.ok.at_ a _ hM
    refine ⟨.inl ⟨rfl, vs, SqL.of hA⟩, ?_⟩
    have c1 := c.step x
    refine (he H0).run σ env Fa Ha Ma _ _ _ (c1.cfg k) p fun d F' H' u M' p2 x2 ru => ?_
    obtain ⟨ys, hM2, hl, p2⟩ := cQ_at p2
    obtain ⟨nf2, np2, ws, hA2, r2⟩ := x2.ok.at_ a _ hM2
    refine ⟨a, ws, u, rfl, rfl, hA2, len_size (by rw [r2.length]; omega), ?_⟩
    have sb : Sub F' H' F' (upd H' a (.lst (ws ++ [u]))) := fun c f => ⟨f, upd_ne (fun z => nf2 (by rw [← z]; exact f))⟩
    have x3 := x2.ok.upd_cell (o := .lst (ws ++ [u])) (c1 := .lst (ys ++ [d])) hM2 ⟨_, upd_same, (r2.append (.cons (show Rv W F' H' u d from ru) .nil)).sub sb⟩
    have c3 := (c1.step x2).step x3
    exact k.nx _ _ _ _ _ c3.b c3.m p2
  | _ => exact (show False from p).elim⟩
theorem RvAll.setC {F : Addr → Prop} {H : Hp} {vs : List V} {xs : List Dat} {v : V} {d : Dat} (r : RvAll W F H vs xs) (q : Rv W F H v d) {j : Int} {k : Nat} (h : ixN xs.length j = some k) : RvAll W F H (vs.set k v) (xs.set k d) := r.set k q
theorem z_putC {te to ti : TE} {ev eo ei : BEx} (he : ∀ H0, BExp W H0 E te ev) (ho : ∀ H0, BExp W H0 E to eo) (hi : ∀ H0, BExp W H0 E ti ei) : BStm W E (tAsg te (gSub to ti rSetL)) (zPutC ev eo ei) := ⟨fun F0 H0 M0 F1 H1 De Da σ env F H M c k h => by
  refine (he H0).run σ env F H M _ _ _ (c.cfg k) h fun d Fa Ha v Ma p x rv => ?_
  have ca := c.step x
  refine (ho H0).run σ env Fa Ha Ma _ _ _ (ca.cfg k) p fun o Fb Hb w Mb p x2 ro => ?_
  have cb := ca.step x2
  refine (hi H0).run σ env Fb Hb Mb _ _ _ (cb.cfg k) p fun i Fc Hc u Mc p x3 ru => ?_
  have cc := cb.step x3
  cases o with
  | cell a =>
    cases i with
    | int j =>
      have e := rv_cell ro
      subst e
      obtain ⟨ys, hM, n, hn, p⟩ := cQ_at p
      obtain ⟨nf, np, vs, hA, r⟩ := x3.ok.at_ a _ hM
      cases (show Rv W Fc Hc u (.int j) from ru)
      have rv3 : Rv W Fc Hc v d := Rv.sub ((x2.trans x3).sub x.ok) rv
      refine ⟨a, vs, j, n, rfl, rfl, hA, by rw [r.length]; exact hn, ?_⟩
      have sb : Sub Fc Hc Fc (upd Hc a (.lst (vs.set n v))) := fun c f => ⟨f, upd_ne (fun z => nf (by rw [← z]; exact f))⟩
      have x4 := x3.ok.upd_cell (o := .lst (vs.set n v)) (c1 := .lst (ys.set n d)) hM ⟨_, upd_same, (r.set n rv3).sub sb⟩
      have c4 := cc.step x4
      exact k.nx _ _ _ _ _ c4.b c4.m p
    | _ => exact (show False from p).elim
  | _ => exact (show False from p).elim⟩
theorem z_putO {te ti : TE} {ev ei : BEx} {s : Nat} (he : ∀ H0, BExp W H0 E te ev) (hi : ∀ H0, BExp W H0 E ti ei) : BStm W E (tAsg te (gSub (tVar s) ti rSetL)) (zPutO s ev ei) := ⟨fun F0 H0 M0 F1 H1 De Da σ env F H M c k h => by
  obtain ⟨ys, a, vs, h, e1, e2, nf, n0, hA, r, np⟩ := own_at c.m h
  obtain ⟨m0, n0⟩ := mask_none.mp n0
  refine (he H0).run σ env F H M _ _ _ (c.cfg k) h fun d Fa Ha v Ma p x rv => ?_
  have ca := c.step x
  obtain ⟨nf1, hA1, m1⟩ := x.own nf hA m0 np
  refine ⟨_, e2, ?_⟩
  refine (hi H0).run σ env Fa Ha Ma _ _ _ (ca.cfg k) p fun i Fc Hc u Mc p x3 ru => ?_
  have cc := ca.step x3
  cases i with
  | int j =>
    obtain ⟨n, hn, p⟩ := (show ∃ n, ixN ys.length j = some n ∧ _ from p)
    cases (show Rv W Fc Hc u (.int j) from ru)
    obtain ⟨nf', hA', m'⟩ := x3.own nf1 hA1 m1 np
    have r' := r.sub ((x.trans x3).sub c.b.ex.ok)
    have rv3 : Rv W Fc Hc v d := Rv.sub (x3.sub x.ok) rv
    have c2 := z_own cc e1 e2 nf' m' n0 np (r'.set n rv3)
    exact ⟨a, vs, j, n, rfl, rfl, hA', by rw [r.length]; exact hn, k.nx _ _ _ _ _ c2.b c2.m p⟩
  | _ => exact (show False from p).elim⟩
end
/-! ### promises over data and cells -/
abbrev BSp := List Dat → Sto → XD → (Dat → Sto → Prop) → Prop
def toSp2 (K : PySem.W.Frag) (ca : Nat → Addr) (bsp : BSp) : Sp := fun vs H Q E => ∃ (po : Option (Addr × Addr)) (F : Addr → Prop) (M : Sto) (ds : List Dat) (P : Dat → Sto → Prop) (X : XD), SoOk ⟨K, ca, po⟩ F H M ∧ RvAll ⟨K, ca, po⟩ F H vs ds ∧ bsp ds M X P ∧ XOk ⟨K, ca, po⟩ F H M E X ∧
  ∀ d F' H' M' v, P d M' → Ex2 ⟨K, ca, po⟩ F H M F' H' M' → Rv ⟨K, ca, po⟩ F' H' v d → Q v H'
/-- a call of a def that raises nothing here -/
def bCall2 (bsp : BSp) (ba : BFr) : BEx := fun env M X P => ba env M X fun ds M' => bsp ds M' X0 P
section
variable {K : PySem.W.Frag} {ca : Nat → Addr} {po : Option (Addr × Addr)} {H0 : Hp} {E : XS}
theorem b_call2 {n : Nat} {E' : XK} {t : TA} {ba : BFr} {bsp : BSp} (h : BArg ⟨K, ca, po⟩ H0 E n t ba) : BExp ⟨K, ca, po⟩ H0 E (tCall (toSp2 K ca bsp) [] E' t) (bCall2 bsp ba) :=
  ⟨fun σ env F H M Q P X c q k => h.run σ env F H M _ _ X c q fun ds F1 H1 vs M1 p1 x1 r1 _ => by
    rw [List.append_nil]
    exact ⟨po, F1, M1, ds, P, X0, x1.ok, r1, p1, .zero, fun d F' H' M' v p x r => k d F' H' v M' p (x1.trans x) r⟩⟩
end
theorem mt_anyB {W : Wd} {H0 H1 : Hp} {F : Addr → Prop} {H : Hp} {σ : L2.St} {env : List Sl} (no : ∀ (i : Nat) (xs : List Dat), env[i]? ≠ some (.o xs)) (m : Mt W H0 F H σ env) : Mt W H1 F H σ env :=
  ⟨m.ln, fun i s e => by
    obtain ⟨ov, e1, r⟩ := m.at_ i s e
    refine ⟨ov, e1, ?_⟩
    cases s with
    | u => trivial
    | d x => exact r
    | o xs => exact absurd e (no i xs), fun i j xs ys a e1 => absurd e1 (no i xs)⟩
theorem mt_start2 {W : Wd} {F : Addr → Prop} {H : Hp} {M : Sto} {N : List Str} {vs : List V} {ds : List Dat} (r : RvAll W F H vs ds) (hl : ds.length ≤ N.length) : Mt2 W H F H M (L2.start N vs) (ds.map Sl.d ++ List.replicate (N.length - ds.length) .u) :=
  mt_anyB (fun i xs e => by
    rcases List.mem_append.mp (List.mem_of_getElem? e) with h | h
    · obtain ⟨_, _, z⟩ := List.mem_map.mp h
      cases z
    · cases (List.mem_replicate.mp h).2) (mt_start r hl)
theorem sp_len2 {K : PySem.W.Frag} {ca : Nat → Addr} {bsp : BSp} {n : Nat} (hn : ∀ ds M X P, bsp ds M X P → ds.length = n) {vs : List V} {H : Hp} {Q : VK} {E : XK} (h : toSp2 K ca bsp vs H Q E) : vs.length = n := by
  obtain ⟨po, F, M, ds, P, X, ok, r, a, xo, k⟩ := h
  rw [r.length]
  exact hn ds M X P a
/-- a def over data and cells -/
theorem fn_run2 {K : PySem.W.Frag} {ca : Nat → Addr} {bsp : BSp} {N : List Str} {vs : List V} {H : Hp} {Q : VK} {E : XK} {ts : TS} {bs : BSt} (h : toSp2 K ca bsp vs H Q E) (hs : ∀ po, BStm ⟨K, ca, po⟩ (fun _ => E) ts bs) (hl : ∀ ds M X P, bsp ds M X P → ds.length ≤ N.length)
    (hb : ∀ ds M X P, bsp ds M X P → bs { nx := fun _ M => P .non M, rt := P, ex := fun _ => X } (ds.map Sl.d ++ List.replicate (N.length - ds.length) .u) M) : ts { nx := fun _ H' => Q .non H', rt := Q } (L2.start N vs) H := by
  obtain ⟨po, F, M, ds, P, X, ok, r, a, xo, k⟩ := h
  exact (hs po).run F H M F H _ { nx := fun _ M => P .non M, rt := P, ex := fun _ => X } _ _ F H M ⟨⟨.refl ok, Sub.refl F H⟩, mt_start2 r (hl ds M X P a)⟩
    ⟨fun σ env F' H' M' b m p => k .non F' H' M' .non p b.ex .non, fun v d F' H' M' b r p => k d F' H' M' v p b.ex r, fun _ _ _ _ _ _ _ p => p.elim, fun _ _ _ _ _ _ _ p => p.elim, fun _ _ _ _ _ b _ => xo.step b.ex⟩ (hb ds M X P a)
/-- a promise over data alone, kept by a def that has cells within -/
theorem fn_run1 {K : PySem.W.Frag} {ca : Nat → Addr} {asp : ASp} {N : List Str} {vs : List V} {H : Hp} {Q : VK} {E : XK} {ts : TS} {bs : BSt} (h : toSp K ca asp vs H Q E) (hs : ∀ po, BStm ⟨K, ca, po⟩ (fun _ => E) ts bs) (hl : ∀ ds P, asp ds P → ds.length ≤ N.length)
    (hb : ∀ ds P, asp ds P → bs { nx := fun _ _ => P .non, rt := fun d _ => P d } (ds.map Sl.d ++ List.replicate (N.length - ds.length) .u) (fun _ => none)) : ts { nx := fun _ H' => Q .non H', rt := Q } (L2.start N vs) H := by
  obtain ⟨po, F, ds, P, ok, r, a, k⟩ := h
  have st : SoOk ⟨K, ca, po⟩ F H (fun _ => none) := ⟨ok, fun _ _ e => by cases e⟩
  have down : ∀ {F' : Addr → Prop} {H' : Hp} {M' : Sto}, Ex2 ⟨K, ca, po⟩ F H (fun _ => none) F' H' M' → Ext ⟨K, ca, po⟩ F H F' H' := fun {F' H' M'} x => ⟨x.up, fun a f => by
    rcases x.dn a f with z | z | z
    · exact .inl z
    · exact .inr z
    · exact absurd rfl z, fun a o e n => x.kp a o e n rfl, x.ok.ok⟩
  exact (hs po).run F H _ F H _ { nx := fun _ _ => P .non, rt := fun d _ => P d } _ _ F H _ ⟨⟨.refl st, Sub.refl F H⟩, mt_start2 r (hl ds P a)⟩
    ⟨fun σ env F' H' M' b m p => k .non F' H' .non p (down b.ex) .non, fun v d F' H' M' b r p => k d F' H' v p (down b.ex) r, fun _ _ _ _ _ _ _ p => p.elim, fun _ _ _ _ _ _ _ p => p.elim, fun _ _ _ _ _ _ _ => .zero⟩ (hb ds P a)
/-! a list's cell that is not changed any more -/
def bFrz (be : BEx) : BEx := fun env M X P => be env M X fun x M1 => ceQ x fun a => cQ (M1 a) fun xs => P (.lst xs) (M1.put a none)
theorem b_frz {W : Wd} {H0 : Hp} {E : XS} {te : TE} {be : BEx} (h : BExp W H0 E te be) : BExp W H0 E te (bFrz be) := ⟨fun σ env F H M Q P X c q k => h.run σ env F H M Q _ X c q fun d F' H' v M' p x r => by
  cases d with
  | cell a =>
    obtain ⟨xs, hM, p⟩ := cQ_at p
    have e := rv_cell (show Rv W F' H' v (.cell a) from r)
    subst e
    obtain ⟨nf, np, vs, hA, rr⟩ := x.ok.at_ a _ hM
    have hn : H' a ≠ none := by rw [hA]; exact fun z => by cases z
    have sb : Sub F' H' (fun b => F' b ∨ b = a) H' := sub_fz a
    have mo : ∀ b, (Sto.put M' a none) b ≠ none → M' b ≠ none := fun b h => by
      by_cases z : b = a
      · rw [z, hM]
        exact fun z => by cases z
      · rw [Sto.put_n z] at h
        exact h
    refine k (.lst xs) (fun b => F' b ∨ b = a) H' (.ref a) (Sto.put M' a none) p ⟨fun b f => .inl (x.up b f), fun b f => ?_, x.kp, x.al, fun b h => x.md b (mo b h), ⟨⟨fun b f => ?_, fun p c e => ?_⟩, fun b e h => ?_⟩⟩ (.lst (.inr rfl) hA (rr.sub sb))
    · rcases f with f | rfl
      · exact x.dn b f
      · rcases x.md b (by rw [hM]; exact fun z => by cases z) with z | z
        · exact .inr (.inr z)
        · exact .inr (.inl z)
    · rcases f with f | rfl
      · exact x.ok.ok.tr b f
      · exact hn
    · obtain ⟨h1, h2, h3⟩ := x.ok.ok.po p c e
      refine ⟨h1, fun f => ?_, fun f => ?_⟩
      · rcases f with f | f
        · exact h2 f
        · exact (np p c e).1 f.symm
      · rcases f with f | f
        · exact h3 f
        · exact (np p c e).2 f.symm
    · by_cases z : b = a
      · rw [z, Sto.put_s] at h
        cases h
      · rw [Sto.put_n z] at h
        obtain ⟨k1, k2, k3⟩ := x.ok.at_ b e h
        exact ⟨fun f => f.elim k1 z, k2, k3.sub sb rfl⟩
  | _ => exact (show False from p).elim⟩

/-! ### evaluating over data and cells -/
theorem drf_l {M : Sto} {xs : List Dat} : drf M (.lst xs) = .lst xs := rfl
theorem drf_t {M : Sto} {xs : List Dat} : drf M (.tup xs) = .tup xs := rfl
theorem drf_i {M : Sto} {i : Int} : drf M (.int i) = .int i := rfl
theorem drf_s {M : Sto} {i : Str} : drf M (.str i) = .str i := rfl
theorem drf_b {M : Sto} {i : Bool} : drf M (.bl i) = .bl i := rfl
theorem drf_n {M : Sto} : drf M .non = .non := rfl
theorem drf_o {M : Sto} {k : Nat} {ds : List Dat} : drf M (.obj k ds) = .obj k ds := rfl
theorem drf_c {M : Sto} {a : Addr} : drf M (.cell a) = drc a (M a) := rfl
theorem drc_l {a : Addr} {xs : List Dat} : drc a (some (.lst xs)) = .lst xs := rfl
theorem ceQ_c {a : Addr} {P : Addr → Prop} : ceQ (.cell a) P = P a := rfl
theorem inQ_i {j : Int} {P : Int → Prop} : inQ (.int j) P = P j := rfl
theorem cQ_l {xs : List Dat} {P : List Dat → Prop} : cQ (some (.lst xs)) P = P xs := rfl
theorem lcB_nil {el : Dat → Sto → (Option Dat → Sto → Prop) → Prop} {P : List Dat → Sto → Prop} {acc : List Dat} {M : Sto} : lcB el P [] acc M = P acc M := rfl
theorem lcB_cons {el : Dat → Sto → (Option Dat → Sto → Prop) → Prop} {P : List Dat → Sto → Prop} {d : Dat} {ds acc : List Dat} {M : Sto} : lcB el P (d :: ds) acc M = el d M fun o M' => match o with
    | some y => lcB el P ds (acc ++ [y]) M'
    | none => lcB el P ds acc M' := rfl
theorem forB_suf {α : Type} {f : α → Dat} {g : ATg} {b : BSt} {D : BEnds} (W : List α → List Sl → Sto → Prop) (hs : ∀ x xs env M, W (x :: xs) env M → ∀ N : List Sl → Sto → Prop, (∀ env' M', W xs env' M' → N env' M') → g (f x) env fun env2 => b { D with nx := N, ct := N, bk := D.nx } env2 M)
    (hd : ∀ env M, W [] env M → D.nx env M) : ∀ xs env M, W xs env M → forB g b D (xs.map f) env M
  | [], env, M, h => hd env M h
  | x :: xs, env, M, h => hs x xs env M h (forB g b D (xs.map f)) fun env' M' w => forB_suf W hs hd xs env' M' w
theorem forB_ran {g : ATg} {b : BSt} {D : BEnds} {n : Nat} {lo : Int} {env : List Sl} {M : Sto} (W : Nat → List Sl → Sto → Prop) (h0 : W 0 env M)
    (hs : ∀ i env M, i < n → W i env M → ∀ N : List Sl → Sto → Prop, (∀ env' M', W (i + 1) env' M' → N env' M') → g (.int (lo + (i : Int))) env fun env2 => b { D with nx := N, ct := N, bk := D.nx } env2 M)
    (hd : ∀ env M, W n env M → D.nx env M) : forB g b D ((List.range n).map fun (i : Nat) => Dat.int (lo + (i : Int))) env M := by
  have gen : ∀ (m k : Nat) env M, k + m = n → W k env M → forB g b D ((List.range' k m).map fun (i : Nat) => Dat.int (lo + (i : Int))) env M := by
    intro m
    induction m with
    | zero =>
      intro k env M e w
      have e : k = n := by omega
      subst e
      exact hd env M w
    | succ m ih =>
      intro k env M e w
      exact hs k env M (by omega) w _ fun env' M' w' => ih (k + 1) env' M' (by omega) w'
  rw [List.range_eq_range']
  exact gen n 0 env M (by omega) h0
/-- items that leave the cells as they are -/
theorem lcB_mapL {α : Type} {f : α → Dat} {xs : List α} {el : Dat → Sto → (Option Dat → Sto → Prop) → Prop} {P : List Dat → Sto → Prop} {M : Sto} (g : α → Dat) (h : ∀ x ∈ xs, ∀ Q : Option Dat → Sto → Prop, Q (some (g x)) M → el (f x) M Q) (k : P (xs.map g) M) : lcB el P (xs.map f) [] M := by
  have gen : ∀ (ys : List α) (acc : List Dat), (∀ x ∈ ys, x ∈ xs) → P (acc ++ ys.map g) M → lcB el P (ys.map f) acc M := by
    intro ys
    induction ys with
    | nil =>
      intro acc _ p
      rw [List.map_nil, List.append_nil] at p
      exact p
    | cons y ys ih =>
      intro acc hm p
      refine h y (hm y List.mem_cons_self) _ ?_
      refine ih (acc ++ [g y]) (fun x hx => hm x (List.mem_cons_of_mem _ hx)) ?_
      rw [List.append_assoc]
      exact p
  exact gen xs [] (fun _ h => h) k
/-- what comes after a statement, by a name -/
theorem zseqG {a b : BSt} {D : BEnds} {env : List Sl} {M : Sto} (h : ∀ N : List Sl → Sto → Prop, N = b D → a { D with nx := N } env M) : zSeq a b D env M := h _ rfl

/-! ### errors over data and cells -/
theorem Mt.setU {W : Wd} {H0 : Hp} {F : Addr → Prop} {H : Hp} {σ : L2.St} {env : List Sl} (m : Mt W H0 F H σ env) (i : Nat) : Mt W H0 F H (σ.set i none) (env.set i .u) := by
  have ne : ∀ {j : Nat} {xs : List Dat}, (env.set i .u)[j]? = some (.o xs) → j ≠ i := fun {j xs} e z => by
    subst z
    have hl : j < env.length := by
      have := (List.getElem?_eq_some_iff.mp e).1
      rwa [List.length_set] at this
    rw [List.getElem?_set_self hl] at e
    cases e
  refine ⟨by rw [List.length_set, List.length_set, m.ln], fun j s e => ?_, fun j k xs ys a e1 e2 e3 e4 => ?_⟩
  · by_cases h : j = i
    · subst h
      have hl : j < env.length := by
        have := (List.getElem?_eq_some_iff.mp e).1
        rwa [List.length_set] at this
      rw [List.getElem?_set_self hl] at e
      cases e
      exact ⟨none, List.getElem?_set_self (by rw [← m.ln]; exact hl), trivial⟩
    · rw [List.getElem?_set_ne (Ne.symm h)] at e ⊢
      exact m.at_ j s e
  · have n1 := ne e1
    have n2 := ne e2
    rw [List.getElem?_set_ne (Ne.symm n1)] at e1 e3
    rw [List.getElem?_set_ne (Ne.symm n2)] at e2 e4
    exact m.own j k xs ys a e1 e2 e3 e4
/-- a call that may raise -/
def bCallX (bsp : BSp) (ba : BFr) : BEx := fun env M X P => ba env M X fun ds M' => bsp ds M' X P
section
variable {K : PySem.W.Frag} {ca : Nat → Addr} {po : Option (Addr × Addr)} {H0 : Hp} {E : XS}
theorem b_callX {n : Nat} {t : TA} {ba : BFr} {bsp : BSp} (h : BArg ⟨K, ca, po⟩ H0 E n t ba) : BExp ⟨K, ca, po⟩ H0 E (tCallS (toSp2 K ca bsp) E t) (bCallX bsp ba) :=
  ⟨fun σ env F H M Q P X c q k => h.run σ env F H M _ _ X c q fun ds F1 H1 vs M1 p1 x1 r1 _ =>
    ⟨po, F1, M1, ds, P, X, x1.ok, r1, p1, (c.step x1).x, fun d F' H' M' v p x r => k d F' H' v M' p (x1.trans x) r⟩⟩
end
/-- raise C(e), e the error's one attribute f -/
def tRaiseF (C : Addr) (f : Str) (Wx : WX) (ta : TA) : TS := fun _ σ H => ta σ H fun vs H1 => ∃ v, vs = [v] ∧ ∀ d, H1 d = none → Wx (.ref C) (some d) σ (upd H1 d (.xd [(f, v)]))
def zRaise (k : Nat) (ba : BFr) : BSt := fun D env M => ba env M (D.ex env) fun ds M1 => D.ex env k ds M1
section
variable {W : Wd} {E : XS}
theorem z_raise {k : Nat} {f : Str} {ta : TA} {ba : BFr} (hf : xcN k = some f) (ha : ∀ H0, BArg W H0 E 1 ta ba) : BStm W E (tRaiseF (W.ca k) f (fun cls d σ H => E σ cls d H) ta) (zRaise k ba) := ⟨fun F0 H0 M0 F1 H1 De Da σ env F H M c kk h =>
  (ha H0).run σ env F H M _ _ _ (c.cfg kk) h fun ds F' H' vs M' p x r l => by
    match ds, l, p, r with
    | [d], _, p, .cons (v := v) r1 .nil =>
      refine ⟨v, rfl, fun dd hd => ?_⟩
      have x2 : Ext W F' H' F' (upd H' dd (.xd [(f, v)])) := Ext.lay x.ok.ok hd
      refine (c.cfg kk).x k [d] (some dd) F' (upd H' dd (.xd [(f, v)])) M' (x.trans (x2.ex2 x.ok)) ?_ (fun a e => by cases e; exact x.there hd) p
      unfold XAt
      rw [hf]
      exact ⟨dd, v, d, rfl, upd_same, rfl, r1.sub (x2.sub x.ok.ok), fun f => x.ok.ok.tr dd f hd, x.ok.new hd, x.ok.ok.pne hd⟩⟩
/-- try: body; except .. as slot i: suite; ks the classes that are caught, all of one attribute -/
def zTryX (i : Nat) (ks : List Nat) (bs : Nat → Addr → Addr → BSt) (D : BEnds) (env : List Sl) : XD := fun k ds M =>
  k ∈ ks ∧ ∀ a dd, M a = none → M dd = none → bs k a dd { D with nx := fun e m => D.nx (e.set i .u) m, bk := fun e m => D.bk (e.set i .u) m, ct := fun e m => D.ct (e.set i .u) m } (env.set i (.d (.cell a))) (M.put dd (some (.xd k ds)))
def zTry (i : Nat) (ks : List Nat) (bb : BSt) (bs : Nat → Addr → Addr → BSt) : BSt := fun D env M => bb { D with ex := zTryX i ks bs D } env M
theorem z_try {i : Nat} {ks : List Nat} {cv : Value} {tb : WX → TS} {ts : Addr → Value → Option Addr → TS} {bb : BSt} {bs : Nat → Addr → Addr → BSt} {Wout : WX} (hks : ∀ k ∈ ks, (∃ f, xcN k = some f) ∧ PySem.W.exmOne W.K (.ref (W.ca k)) cv = some true)
    (hb : ∀ Wx : WX, BStm W (fun σ cls d H => Wx cls d σ H) (tb Wx) bb) (hs : ∀ k ∈ ks, ∀ a dd, BStm W E (ts a (.ref (W.ca k)) (some dd)) (bs k a dd)) : BStm W E (fun D σ H => tb (wAs W.K cv i ts Wout D) D σ H) (zTry i ks bb bs) := ⟨fun F0 H0 M0 F1 H1 De Da σ env F H M c k h => by
  refine (hb (wAs W.K cv i ts Wout De)).run F0 H0 M0 F1 H1 De { Da with ex := zTryX i ks bs Da } σ env F H M c ⟨k.nx, k.rt, k.bk, k.ct, fun σ env F H M b m kx ds d F' H' M' x xa nw hX => ?_⟩ h
  obtain ⟨hk, hX⟩ := hX
  obtain ⟨⟨f, hf⟩, he⟩ := hks kx hk
  unfold XAt at xa
  rw [hf] at xa
  obtain ⟨dd, v, y, rfl, hd, rfl, rv, nf, md, npd⟩ := xa
  refine ⟨true, he, fun _ a ha => ?_, fun z => by cases z⟩
  have x' : Ex2 W F H M F' H' (M'.put dd (some (.xd kx [y]))) := by
    refine ⟨x.up, x.dn, x.kp, x.al, fun b hb => ?_, x.ok.new_cell nf md npd ⟨f, v, y, hf, hd, rfl, rv⟩⟩
    by_cases z : b = dd
    · rw [z]
      exact .inr (nw dd rfl)
    · rw [Sto.put_n z] at hb
      exact x.md b hb
  exact (hs kx hk a dd).run F0 H0 M0 F1 H1 _ { Da with nx := fun e m => Da.nx (e.set i .u) m, bk := fun e m => Da.bk (e.set i .u) m, ct := fun e m => Da.ct (e.set i .u) m } (σ.set i (some (.ref a))) (env.set i (.d (.cell a))) F' H' _ ⟨⟨b.ex.trans x', b.sb.trans (x'.sub b.ex.ok)⟩, (m.ex2 b.ex.ok x').setD i (.cell a)⟩
    ⟨fun σ env F H M b m h => k.nx _ _ F H M b (m.setU i) h, k.rt, fun σ env F H M b m h => k.bk _ _ F H M b (m.setU i) h, fun σ env F H M b m h => k.ct _ _ F H M b (m.setU i) h, k.ex⟩ (hX a dd (x.ok.new ha) md)⟩
/-- e.f in the suite, e in slot i, the class kk's attribute -/
def xQ (o : Option Ce) (kk : Nat) (P : Dat → Prop) : Prop := match o with
  | some (.xd k [x]) => k = kk ∧ P x
  | _ => False
def isC : Dat → Addr → Prop
  | .cell b, a => b = a
  | _, _ => False
def bWhat (i : Nat) (a dd : Addr) (k kk : Nat) : BEx := fun env M _ P => k = kk ∧ dQ (dAt env i) fun x => isC x a ∧ xQ (M dd) kk fun y => P y M
theorem b_what {H0 : Hp} {i k kk : Nat} {a dd : Addr} {f : Str} (hf : xcN kk = some f) : BExp W H0 E (tXf a (.ref (W.ca k)) (some dd) (W.ca kk) f (tVar i)) (bWhat i a dd k kk) := ⟨fun σ env F H M Q P X c ⟨hk, h⟩ q => by
  subst hk
  cases e : dAt env i with
  | d x =>
    rw [e] at h
    obtain ⟨hx, h⟩ := h
    obtain ⟨_, e1, v, rfl, r⟩ := c.m.at_ i _ (dAt_get e (fun z => by cases z))
    cases x with
    | cell b =>
      have hx : b = a := hx
      subst hx
      have ev := rv_cell r
      subst ev
      refine ⟨_, e1, rfl, rfl, dd, ?_⟩
      cases hM : M dd with
      | none =>
        rw [hM] at h
        exact h.elim
      | some ce =>
        rw [hM] at h
        cases ce with
        | xd k' ds =>
          match ds, h with
          | [y], ⟨hk, p⟩ =>
            subst hk
            obtain ⟨_, _, f', v, z, hf', hA, ez, rz⟩ := c.st.at_ dd _ hM
            rw [hf] at hf'
            cases hf'
            cases ez
            exact ⟨_, v, rfl, hA, by simp [List.lookup], q y F H v M p (.refl c.st) rz⟩
          | [], h => exact h.elim
          | _ :: _ :: _, h => exact h.elim
        | _ => exact h.elim
    | _ => exact hx.elim
  | u =>
    rw [e] at h
    exact h.elim
  | o xs =>
    rw [e] at h
    exact h.elim⟩
end

/-! ### errors: the rules of the text -/
/-- C(..) where __init__ may raise -/
def tMakeS (C : Addr) (sp : Sp) (E : L2.St → XK) (t : TA) : TE := fun σ H Q => t σ H fun vs H1 => ∀ x dx, H1 x = none → H1 dx = none → dx ≠ x → sp (.ref x :: vs) (upd (upd H1 dx (.own x)) x (.ins C dx [])) (fun v H2 => v = .non ∧ Q (.ref x) H2) (E σ)
/-- o.m(..) where m may raise -/
def tMethS (C : Addr) (m : Str) (sp : Sp) (E : L2.St → XK) (ta : TE) (t : TA) : TE := fun σ H Q => ta σ H fun x H1 => ∃ a dx fs, x = .ref a ∧ H1 a = some (.ins C dx fs) ∧ fs.lookup m = none ∧ t σ H1 fun vs H2 => sp (x :: vs) H2 Q (E σ)
section
variable {X : Cx} {CX : CXT} {k : Nat} {f C : Addr} {fd : FuncData} {ps : List Str} {sp : Sp} {E : L2.St → XK} {x m : Str} {p pos apos : Pos} {e o : Expr} {es : List Expr} {ta : TE} {t : TA}
theorem run_makeS {pins : List (Addr × Obj)} {σ : L2.St} {H : Hp} {s : Shared} {Q : VK} {us : List Value} {vs : List V} (M : Mk X.K C f) (F : FnOk X.prog X.w X.K X.mg X.base CX k f fd ps sp) (hr : Room (k + 1) X.A) (hb : Binds X.K fd ps []) (hx : PassesAt CX X σ (E σ)) (I : Inv X pins σ H s) (r : Vals vs us)
    (h : ∀ x dx, H x = none → H dx = none → dx ≠ x → sp (.ref x :: vs) (upd (upd H dx (.own x)) x (.ins C dx [])) (fun v H2 => v = .non ∧ Q (.ref x) H2) (E σ)) : wpAny (model X.prog X.w) X.A (call (.ref C) us) (EP X pins σ Q) X.xe s := by
  have hq := h (s.heap.objs.size + 1) s.heap.objs.size (I.hok.fresh (Nat.le_succ _)) (I.hok.fresh (Nat.le_refl _)) (Nat.ne_of_lt (Nat.lt_succ_self _)); have J := Inv.made (C := C) I
  have rr : Vals (V.ref (s.heap.objs.size + 1) :: vs) (Value.ref (s.heap.objs.size + 1) :: us) := .cons rfl r
  have hn : (Value.ref (s.heap.objs.size + 1) :: us).length = ps.length := by rw [← rr.length]; exact F.len _ _ _ _ hq
  have bb := hb _ (Value.ref (s.heap.objs.size + 1) :: us) J.kIn (by rw [List.append_nil]; exact hn)
  rw [List.append_nil] at bb
  refine wpAny_call (make_map (f := f) I.kIn M.makes M.init (beq_iff_eq.mp M.fn) (codeAny_mono (F.run _ X.stack _ _ ⟨Value.ref (s.heap.objs.size + 1) :: us, []⟩ (Value.ref (s.heap.objs.size + 1) :: us) _ _ (E σ) (hr.make C us []) (J.env0.make C us []) bb rr hq) fun out s2 hq2 => ?_))
  cases out with
  | error er => exact hx pins _ _ er s2 J hq2
  | ok fl =>
    cases fl with
    | ret u => obtain ⟨v, H3, J3, rv, ev, q3⟩ := J.after hq2; subst ev; exact ⟨rv, ⟨V.ref (s.heap.objs.size + 1), H3, J3, rfl, q3⟩⟩
    | next => exact hq2.elim
    | brk => exact hq2.elim
    | cont => exact hq2.elim
theorem pe_makeS (M : Mk X.K C f) (F : FnOk X.prog X.w X.K X.mg X.base CX k f fd ps sp) (hr : Room (k + 1) X.A) (hg : Gl X x) (hm : X.mg x = some (.ref C)) (hb : Binds X.K fd ps []) (hx : ∀ σ, PassesAt CX X σ (E σ)) (ha : PA X (e :: es) t) (hdb : (x == ("__debug__" : Str)) = false := by decide)
    (hst : starEach (e :: es) X.env = (false, eval e X.env) :: starEach es X.env := by rfl) (hpn : (backTo pos (starEach es X.env)).any (·.1) = false := by rfl) : PE X (.Call (.Name x p) (e :: es) [] pos) (tMakeS C sp E t) :=
  ⟨fun pins s σ H Q I h => wpAny_Call_Name_kw (ld_glob I hg hm (PySem.W.callWith_K (h₀ := X.base) I.ok.mod.kin M.kp (thn (ha.run pos pins s σ H _ I h) fun us s1 ⟨vs, H1, I1, r, q⟩ => ⟨I1.kIn, run_makeS M F hr hb (hx σ) I1 r q⟩) hst hpn) hdb)⟩
theorem pe_methS {pl : Sem Bool} (he : PE X o ta) (c : Cls X.K C) (hm : Meth X.K C m f) (F : FnOk X.prog X.w X.K X.mg X.base CX k f fd ps sp) (hr : Room k X.A) (hb : Binds X.K fd ps []) (hx : ∀ σ, PassesAt CX X σ (E σ)) (ha : PA X (e :: es) t) (hst : starEach (e :: es) X.env = (false, eval e X.env) :: starEach es X.env := by rfl) (hpn : (backTo pos (starEach es X.env)).any (·.1) = false := by rfl)
    (ht : eval (.Call (.Attribute o m apos) (e :: es) [] pos) X.env = (do let ov ← eval o X.env; standAt apos.atName; let (f, first) ← holding [ov] (getMethod ov m pl); callWith pos f first (backTo pos (starEach (e :: es) X.env)) (backToKw pos (keywordEach [] X.env))) := by rfl) :
    PE X (.Call (.Attribute o m apos) (e :: es) [] pos) (tMethS C m sp E ta t) := ⟨fun pins s σ H Q I h => PySem.W.methodCall_KW (pl := pl) (thn (he.run pins s σ H _ I h) fun u s1 ⟨x, H1, I1, rx, a, dx, fs, ex, ea, l, q⟩ => by
  subst ex
  obtain rfl : u = Value.ref a := rx
  exact getmeth_ok I1 ea c hm l (PySem.W.callWith_K (first := [.ref a]) (h₀ := X.base) I.ok.mod.kin hm.kp (thn (ha.run pos pins s1 σ H1 _ I1 q) fun us s2 ⟨vs, H2, I2, r, q2⟩ => ⟨I2.kIn, run_fnS (us := .ref a :: us) (vs := .ref a :: vs) F hr hb (hx σ) I2 (.cons rfl r) q2⟩) hst hpn)) ht⟩
theorem pe_methS0 {pl : Sem Bool} (he : PE X o ta) (c : Cls X.K C) (hm : Meth X.K C m f) (F : FnOk X.prog X.w X.K X.mg X.base CX k f fd ps sp) (hr : Room k X.A) (hb : Binds X.K fd ps []) (hx : ∀ σ, PassesAt CX X σ (E σ))
    (ht : eval (.Call (.Attribute o m apos) [] [] pos) X.env = (do let ov ← eval o X.env; standAt apos.atName; let (f, first) ← holding [ov] (getMethod ov m pl); callWith pos f first (backTo pos (starEach [] X.env)) (backToKw pos (keywordEach [] X.env))) := by rfl) :
    PE X (.Call (.Attribute o m apos) [] [] pos) (tMethS C m sp E ta tNil) := ⟨fun pins s σ H Q I h => PySem.W.methodCall_KW (pl := pl) (thn (he.run pins s σ H _ I h) fun u s1 ⟨x, H1, I1, rx, a, dx, fs, ex, ea, l, q⟩ => by
  subst ex
  obtain rfl : u = Value.ref a := rx
  exact getmeth_ok I1 ea c hm l (PySem.W.callWith_K0 (first := [.ref a]) I1.kIn hm.kp (run_fnS (us := [.ref a]) (vs := [.ref a]) F hr hb (hx σ) I1 (.cons rfl .nil) q))) ht⟩
end
/-! raise C(e) -/
/-- __init__ of an error: self.f = its one argument -/
def spXI (K : PySem.W.Frag) (C : Addr) (f : Str) : Sp := fun vs H Q _ => ∃ a v, vs = [.ref a, v] ∧ H a = some (exo a C none) ∧ ∀ dx, H dx = none → dx ≠ a → Q .non (upd (upd H dx (exd dx [(f, v)])) a (exo a C (some dx)))
def tRaiseO (C : Addr) (sp : Sp) (Wx : WX) (ta : TA) : TS := fun _ σ H => tMkO C sp [] ta σ H fun cls d H' => Wx cls d σ H'

/-! ### isinstance of the error that the suite holds, with a dict -/
theorem held_in {X : Cx} {D a dd : Addr} {oe : Obj} {pn pins : List (Addr × Obj)} {s : Shared} {σ : L2.St} {H : Hp} {fs : List (Str × V)} (I : Inv (X.suite a ((a, oe) :: pn)) pins σ H s) (hz : Zc (.ref D) (some dd) oe) (hf : ∃ vs, oe.data = .fields vs) (e : H dd = some (.xd fs)) : ∃ od, PySem.W.InstAt s.heap a oe D (some od) := by
  have g := (I.pin (a, oe) (List.mem_append.mpr (.inl List.mem_cons_self))).1
  obtain ⟨vs, hd⟩ := hf
  have hx : ObjOk X.prog X.w H s.heap dd (.xd fs) := I.hok dd _ e
  obtain ⟨mA, hns, hr⟩ := hx
  obtain ⟨od, ho, hl⟩ := lookIn_ns hns
  exact ⟨od, g, hz.1, by unfold PySem.W.notCls; rw [hd] <;> rfl, by rw [hz.2]; exact ho⟩
def rKX (K : PySem.W.Frag) (a : Addr) (cls : Value) (d : Option Addr) : List V → Hp → VK → Prop := fun xs H Q => ∃ (D dd : Addr) (c : V) (u : Value) (b : Bool) (fs : List (Str × V)), cls = .ref D ∧ d = some dd ∧ ExcC K D ∧ H dd = some (.xd fs) ∧ xs = [.ref a, c] ∧ ClsV c u ∧ PySem.W.kitOne K (.ref D) u = some b ∧ Q (.bl b) H
def rKXT (K : PySem.W.Frag) (a : Addr) (cls : Value) (d : Option Addr) : List V → Hp → VK → Prop := fun xs H Q => ∃ (D dd tp : Addr) (cs : List V) (us : List Value) (b : Bool) (fs : List (Str × V)), cls = .ref D ∧ d = some dd ∧ ExcC K D ∧ H dd = some (.xd fs) ∧ xs = [.ref a, .ref tp] ∧ H tp = some (.tup cs) ∧ Paired ClsV cs us ∧ PySem.W.kitAny K (.ref D) us = some b ∧ Q (.bl b) H
theorem exc_isSome {K : PySem.W.Frag} {D : Addr} (C : ExcC K D) : (PySem.W.clsIn K D).isSome = true := by
  obtain ⟨cd, hc, _⟩ := PySem.W.any_some C.hd
  rw [hc]
  rfl
theorem kisX {X : Cx} {K : PySem.W.Frag} {a : Addr} {cls : Value} {d : Option Addr} {oe : Obj} {pn : List (Addr × Obj)} (hK : X.K = K) (hz : Zc cls d oe) (hf : ∃ vs, oe.data = .fields vs) : CallR (X.suite a ((a, oe) :: pn)) (.builtin "isinstance") (rKX K a cls d) := by
  subst hK
  intro pins s σ H xs us Q I r h
  obtain ⟨D, dd, c, u, b, fs, rfl, rfl, C, hd, rfl, k, e, q⟩ := h
  obtain ⟨u1, u2, rfl, r1, r2⟩ := vals2 r
  cases r1
  have ec := k.eq r2
  subst ec
  obtain ⟨od, J⟩ := held_in I hz hf hd
  exact PySem.W.kia_one (PySem.W.kitx_exc (exc_isSome C) C.hg C.hk C.hs C.ha C.hn C.ht C.hm) I.kIn J e (fun z => nomatch z) fun tk => ⟨.bl b, H, I.kept (t' := tk) fun _ _ z => z, rfl, q⟩
theorem kisXT {X : Cx} {K : PySem.W.Frag} {a : Addr} {cls : Value} {d : Option Addr} {oe : Obj} {pn : List (Addr × Obj)} (hK : X.K = K) (hz : Zc cls d oe) (hf : ∃ vs, oe.data = .fields vs) : CallR (X.suite a ((a, oe) :: pn)) (.builtin "isinstance") (rKXT K a cls d) := by
  subst hK
  intro pins s σ H xs us Q I r h
  obtain ⟨D, dd, tp, cs, ws, b, fs, rfl, rfl, C, hd, rfl, hT, k, e, q⟩ := h
  obtain ⟨u1, u2, rfl, r1, r2⟩ := vals2 r
  cases r1
  cases r2
  obtain ⟨od, J⟩ := held_in I hz hf hd
  obtain ⟨_, its, rv, ⟨oc, ob, dt, sl⟩, g1, g2, n, g3⟩ : ObjOk X.prog X.w H s.heap tp (.tup cs) := I.hok tp _ hT
  have g2' : oc = .type "tuple" := g2
  subst g2'
  have g3' : dt = .seq its.toArray n := g3
  subst g3'
  have e3 := ClsV.all k rv
  subst e3
  exact PySem.W.kia_tup (PySem.W.kitx_exc (exc_isSome C) C.hg C.hk C.hs C.ha C.hn C.ht C.hm) I.kIn J g1 e (fun z => nomatch z) fun tk => ⟨.bl b, H, I.kept (t' := tk) fun _ _ z => z, rfl, q⟩
/-! over data -/
/-- a list of classes, as arguments -/
inductive ClsA : TA → List V → Prop
  | nil : ClsA tNil []
  | cons {v : V} {t : TA} {vs : List V} : ClsA t vs → ClsA (tCons (tC v) t) (v :: vs)
theorem ClsA.run {t : TA} {vs : List V} (h : ClsA t vs) : ∀ {σ : L2.St} {H : Hp} {Q : List V → Hp → Prop}, Q vs H → t σ H Q := by
  induction h with
  | nil => exact fun h => h
  | cons _ ih => exact fun h => ih h
def bIs (i : Nat) (a dd : Addr) (k : Nat) (b : Bool) : BEx := fun env M _ P => dQ (dAt env i) fun x => isC x a ∧ xQ (M dd) k fun _ => P (.bl b) M
section
variable {W : Wd} {H0 : Hp} {E : XS}
/-- the error in slot i, its dict -/
theorem held_b {F : Addr → Prop} {H : Hp} {M : Sto} {σ : L2.St} {env : List Sl} {X : XD} {i k : Nat} {a dd : Addr} {P : Prop} (c : Cfg W H0 E F H M σ env X) (h : dQ (dAt env i) fun x => isC x a ∧ xQ (M dd) k fun _ => P) : σ[i]? = some (some (.ref a)) ∧ (∃ f v, H dd = some (.xd [(f, v)])) ∧ P := by
  cases e : dAt env i with
  | d x =>
    rw [e] at h
    obtain ⟨hx, h⟩ := h
    obtain ⟨_, e1, v, rfl, r⟩ := c.m.at_ i _ (dAt_get e (fun z => by cases z))
    cases x with
    | cell b =>
      have hx : b = a := hx
      subst hx
      have ev := rv_cell r
      subst ev
      cases hM : M dd with
      | none =>
        rw [hM] at h
        exact h.elim
      | some ce =>
        rw [hM] at h
        cases ce with
        | xd k' ds =>
          match ds, h with
          | [y], ⟨hk, p⟩ =>
            obtain ⟨_, _, f', v, z, hf', hA, ez, rz⟩ := c.st.at_ dd _ hM
            exact ⟨e1, ⟨f', v, hA⟩, p⟩
          | [], h => exact h.elim
          | _ :: _ :: _, h => exact h.elim
        | _ => exact h.elim
    | _ => exact hx.elim
  | u =>
    rw [e] at h
    exact h.elim
  | o xs =>
    rw [e] at h
    exact h.elim
theorem b_isX {i k : Nat} {a dd : Addr} {c : V} {u : Value} {b : Bool} (C : ExcC W.K (W.ca k)) (hc : ClsV c u) (he : PySem.W.kitOne W.K (.ref (W.ca k)) u = some b) : BExp W H0 E (tCB (rKX W.K a (.ref (W.ca k)) (some dd)) (tCons (tVar i) (tCons (tC c) tNil))) (bIs i a dd k b) := ⟨fun σ env F H M Q P X cf h q => by
  obtain ⟨e1, ⟨f, v, hA⟩, p⟩ := held_b cf h
  exact ⟨_, e1, W.ca k, dd, c, u, b, _, rfl, rfl, C, hA, rfl, hc, he, q _ F H _ M p (.refl cf.st) (.bl b)⟩⟩
theorem b_isXT {i k : Nat} {a dd : Addr} {t : TA} {cs : List V} {us : List Value} {b : Bool} (C : ExcC W.K (W.ca k)) (ht : ClsA t cs) (hl : cs.length ≤ 1000) (hc : Paired ClsV cs us) (he : PySem.W.kitAny W.K (.ref (W.ca k)) us = some b) :
    BExp W H0 E (tCB (rKXT W.K a (.ref (W.ca k)) (some dd)) (tCons (tVar i) (tCons (tTup t) tNil))) (bIs i a dd k b) := ⟨fun σ env F H M Q P X cf h q => by
  obtain ⟨e1, ⟨f, v, hA⟩, p⟩ := held_b cf h
  refine ⟨_, e1, ht.run ⟨Nat.le_of_lt (len_size (by omega)), fun tp hn => ?_⟩⟩
  have x2 : Ext W F H F (upd H tp (.tup cs)) := Ext.lay cf.st.ok hn
  have hA2 : upd H tp (.tup cs) dd = some (.xd [(f, v)]) := by
    rw [upd_ne (ne_of_none hA hn)]
    exact hA
  exact ⟨W.ca k, dd, tp, cs, us, b, _, rfl, rfl, C, hA2, rfl, upd_same, hc, he, q _ F _ _ M p (x2.ex2 cf.st) (.bl b)⟩⟩
end

/-! ### objects as cells -/
def coQ (o : Option Ce) (P : Nat → List Dat → Prop) : Prop := match o with
  | some (.obj k ds) => P k ds
  | _ => False
theorem coQ_at {o : Option Ce} {P : Nat → List Dat → Prop} (h : coQ o P) : ∃ k ds, o = some (.obj k ds) ∧ P k ds := by
  cases o with
  | none => exact h.elim
  | some c =>
    cases c with
    | obj k ds => exact ⟨k, ds, rfl, h⟩
    | _ => exact h.elim
/-- o.f, o a cell -/
def bFldC (c i : Nat) (eo : BEx) : BEx := fun env M X P => eo env M X fun x M1 => ceQ x fun a => coQ (M1 a) fun k ds => k = c ∧ oQ ds[i]? fun d => P d M1
def putN (ds : List Dat) (i : Nat) (d : Dat) : List Dat := if i < ds.length then ds.set i d else ds ++ [d]
/-- o.f = e, o a cell -/
def zSetF (c i : Nat) (eo ea : BEx) : BSt := fun D env M => ea env M (D.ex env) fun d M1 => eo env M1 (D.ex env) fun x M2 => ceQ x fun a => coQ (M2 a) fun k ds => k = c ∧ i ≤ ds.length ∧ D.nx env (M2.put a (some (.obj c (putN ds i d))))
theorem putF_same {f : Str} {v : V} : ∀ {fs : List (Str × V)} {u : V}, fs.lookup f = some u → (putF f v fs).length = fs.length
  | [], _, h => nomatch h
  | (g, x) :: r, u, h => by
    show (if g = f then (g, v) :: r else (g, x) :: putF f v r).length = _
    by_cases z : g = f
    · rw [if_pos z]
      rfl
    · rw [if_neg z]
      have hh : (f == g) = false := by simpa using fun e : f = g => z e.symm
      have h : r.lookup f = some u := by
        rw [List.lookup_cons, hh] at h
        exact h
      exact congrArg (· + 1) (putF_same h)
theorem RvFs.setAt {W : Wd} {F : Addr → Prop} {H : Hp} {f : Str} {v : V} {d : Dat} (a : Rv W F H v d) : ∀ {ks : List Str} {ds : List Dat} {fs : List (Str × V)} {i : Nat}, RvFs W F H fs ks ds → ks.Nodup → ks[i]? = some f → RvFs W F H (putF f v fs) ks (ds.set i d)
  | _, _, _, _, .nil, _, h => by simp at h
  | _, _, _, 0, .cons e a1 r, nd, h => by
    cases h
    obtain ⟨n1, n2⟩ := List.nodup_cons.mp nd
    exact .cons (by rw [lookup_putF, if_pos rfl]) a (r.put n1)
  | k :: ks, _, _, i + 1, .cons e a1 r, nd, h => by
    obtain ⟨n1, n2⟩ := List.nodup_cons.mp nd
    have h : ks[i]? = some f := h
    exact .cons (by rw [lookup_putF, if_neg (fun z => n1 (by rw [z]; exact List.mem_of_getElem? h))]; exact e) a1 (RvFs.setAt a r n2 h)
section
variable {W : Wd} {E : XS}
theorem b_fldC {H0 : Hp} {c i : Nat} {f : Str} {to : TE} {eo : BEx} (cl : Cls W.K (W.ca c)) (na : NoAttr W.K (W.ca c) f) (hf : (clsN c)[i]? = some f) (ho : BExp W H0 E to eo) : BExp W H0 E (tFld W.K to f) (bFldC c i eo) := ⟨fun σ env F H M Q P X cf h q => ho.run σ env F H M _ _ X cf h fun d F1 H1 v M1 p1 x1 r1 => by
  cases d with
  | cell a =>
    have e := rv_cell (show Rv W F1 H1 v (.cell a) from r1)
    subst e
    obtain ⟨k, ds, hM, rfl, p⟩ := coQ_at p1
    obtain ⟨nf, np, dx, fs, hA, lf, rf, no⟩ := x1.ok.at_ a _ hM
    cases e : ds[i]? with
    | none =>
      rw [e] at p
      exact p.elim
    | some d =>
      rw [e] at p
      have li := (List.getElem?_eq_some_iff.mp e).1
      obtain ⟨v, e1, rv⟩ := rf.get (i := i) (by rw [List.getElem?_take_of_lt li]; exact hf) e
      exact ⟨a, _, dx, fs, v, rfl, hA, cl, na, e1, q d F1 H1 v M1 p x1 rv⟩
  | _ => exact (show False from p1).elim⟩
theorem z_setF {c i : Nat} {f : Str} {to te : TE} {eo ea : BEx} (cl : Cls W.K (W.ca c)) (na : NoAttr W.K (W.ca c) f) (hf : (clsN c)[i]? = some f) (nd : (clsN c).Nodup) (ln : (clsN c).length < 900) (ho : ∀ H0, BExp W H0 E to eo) (he : ∀ H0, BExp W H0 E te ea) :
    BStm W E (sFld W.K to te f) (zSetF c i eo ea) := ⟨fun F0 H0 M0 F1 H1 De Da σ env F H M cf k h => by
  refine (he H0).run σ env F H M _ _ _ (cf.cfg k) h fun d Fa Ha v Ma p x rv => ?_
  have ca := cf.step x
  refine (ho H0).run σ env Fa Ha Ma _ _ _ (ca.cfg k) p fun o F' H' w M' p x2 ro => ?_
  have cb := ca.step x2
  cases o with
  | cell a =>
    have e := rv_cell (show Rv W F' H' w (.cell a) from ro)
    subst e
    obtain ⟨kk, ds, hM, rfl, hi, p⟩ := coQ_at p
    obtain ⟨nf, np, dx, fs, hA, lf, rf, no⟩ := x2.ok.at_ a _ hM
    have lds := rf.len
    rw [List.length_take] at lds
    have li : i < (clsN kk).length := (List.getElem?_eq_some_iff.mp hf).1
    refine ⟨a, W.ca kk, dx, fs, rfl, hA, cl, na, by omega, ?_⟩
    have rv2 : Rv W F' H' v d := Rv.sub (x2.sub x.ok) rv
    have sb : Sub F' H' F' (upd H' a (.ins (W.ca kk) dx (putF f v fs))) := fun c f => ⟨f, upd_ne (fun z => nf (by rw [← z]; exact f))⟩
    have lk : (putF f v fs).lookup f = some v := by rw [lookup_putF, if_pos rfl]
    have x3 := x2.ok.upd_cell (o := .ins (W.ca kk) dx (putF f v fs)) (c1 := .obj kk (putN ds i d)) hM (by
      refine ⟨dx, putF f v fs, upd_same, ?_⟩
      unfold putN
      by_cases z : i < ds.length
      · rw [if_pos z, List.length_set]
        have hf' : ((clsN kk).take ds.length)[i]? = some f := by rw [List.getElem?_take_of_lt z]; exact hf
        obtain ⟨u, eu, _⟩ := rf.get (i := i) hf' (List.getElem?_eq_getElem z)
        refine ⟨by rw [putF_same eu]; exact lf, (RvFs.setAt rv2 rf (nd.sublist (List.take_sublist _ _)) hf').sub sb, fun m hm => ?_⟩
        rw [lookup_putF, if_neg (fun e => hm (by rw [e]; exact List.mem_of_getElem? hf'))]
        exact no m hm
      · rw [if_neg z]
        have ei : i = ds.length := by omega
        subst ei
        have tk : (clsN kk).take (ds ++ [d]).length = (clsN kk).take ds.length ++ [f] := by
          rw [List.length_append, List.length_singleton, List.take_add_one, hf]
          rfl
        have nm : f ∉ (clsN kk).take ds.length := fun hm => by
          obtain ⟨j, hj⟩ := List.mem_iff_getElem?.mp hm
          have lj := (List.getElem?_eq_some_iff.mp hj).1
          rw [List.length_take] at lj
          rw [List.getElem?_take_of_lt (by omega)] at hj
          have := (List.getElem?_inj (i := j) (j := ds.length) (by omega) nd).mp (hj.trans hf.symm)
          omega
        refine ⟨?_, ?_, fun m hm => ?_⟩
        · have := putF_len f v fs
          rw [List.length_append, List.length_singleton]
          omega
        · rw [tk]
          exact ((rf.put nm).snoc lk rv2).sub sb
        · rw [tk] at hm
          rw [lookup_putF, if_neg (fun e => hm (by rw [e]; exact List.mem_append.mpr (.inr List.mem_cons_self)))]
          exact no m fun e => hm (List.mem_append.mpr (.inl e)))
    have c3 := cb.step x3
    exact k.nx _ _ _ _ _ c3.b c3.m p
  | _ => exact (show False from p).elim⟩
end
/-! made: the object is a cell, __init__ gets it -/
def toSpI2 (K : PySem.W.Frag) (ca : Nat → Addr) (c : Nat) (bsp : BSp) : Sp := fun vs H Q E => ∃ (po : Option (Addr × Addr)) (F : Addr → Prop) (H1 : Hp) (x dx : Addr) (ws : List V) (M : Sto) (ds : List Dat) (P : Dat → Sto → Prop) (X : XD),
  vs = .ref x :: ws ∧ H = upd (upd H1 dx (.own x)) x (.ins (ca c) dx []) ∧ H1 x = none ∧ H1 dx = none ∧ dx ≠ x ∧ SoOk ⟨K, ca, po⟩ F H1 M ∧ RvAll ⟨K, ca, po⟩ F H1 ws ds ∧ bsp (.cell x :: ds) (M.put x (some (.obj c []))) X P ∧ XOk ⟨K, ca, po⟩ F H1 M E X ∧
  ∀ d F' H' M' v, P d M' → Ex2 ⟨K, ca, po⟩ F H1 M F' H' M' → Rv ⟨K, ca, po⟩ F' H' v d → Q v H'
def bMake2 (c : Nat) (bsp : BSp) (ba : BFr) : BEx := fun env M X P => ba env M X fun ds M' => ∀ x, M' x = none → bsp (.cell x :: ds) (M'.put x (some (.obj c []))) X fun d M2 => d = .non ∧ P (.cell x) M2
section
variable {K : PySem.W.Frag} {ca : Nat → Addr} {po : Option (Addr × Addr)} {H0 : Hp} {E : XS}
theorem b_make2 {n c : Nat} {t : TA} {ba : BFr} {bsp : BSp} (h : BArg ⟨K, ca, po⟩ H0 E n t ba) : BExp ⟨K, ca, po⟩ H0 E (tMakeS (ca c) (toSpI2 K ca c bsp) E t) (bMake2 c bsp ba) :=
  ⟨fun σ env F H M Q P X cf q k => h.run σ env F H M _ _ X cf q fun ds F1 H1 vs M1 p1 x1 r1 _ => fun x dx hx hdx hne =>
    ⟨po, F1, H1, x, dx, vs, M1, ds, _, X, rfl, rfl, hx, hdx, hne, x1.ok, r1, p1 x (x1.ok.new hx), (cf.step x1).x, fun d F' H' M' v p y r => by
      obtain ⟨rfl, p⟩ := p
      cases r
      exact ⟨rfl, k (.cell x) F' H' (.ref x) M' p (x1.trans y) (.cell x)⟩⟩⟩
end
/-- an object's cell that is not changed any more -/
def bFrzO (be : BEx) : BEx := fun env M X P => be env M X fun x M1 => ceQ x fun a => coQ (M1 a) fun k ds => ds.length = (clsN k).length ∧ P (.obj k ds) (M1.put a none)
theorem b_frzO {W : Wd} {H0 : Hp} {E : XS} {te : TE} {be : BEx} (h : BExp W H0 E te be) : BExp W H0 E te (bFrzO be) := ⟨fun σ env F H M Q P X c q k => h.run σ env F H M Q _ X c q fun d F' H' v M' p x r => by
  cases d with
  | cell a =>
    obtain ⟨kk, ds, hM, hl, p⟩ := coQ_at p
    have e := rv_cell (show Rv W F' H' v (.cell a) from r)
    subst e
    obtain ⟨nf, np, dx, fs, hA, lf, rr, no⟩ := x.ok.at_ a _ hM
    have hn : H' a ≠ none := by rw [hA]; exact fun z => by cases z
    have sb : Sub F' H' (fun b => F' b ∨ b = a) H' := sub_fz a
    have mo : ∀ b, (Sto.put M' a none) b ≠ none → M' b ≠ none := fun b h => by
      by_cases z : b = a
      · rw [z, hM]
        exact fun z => by cases z
      · rw [Sto.put_n z] at h
        exact h
    rw [hl, List.take_length] at rr no
    refine k (.obj kk ds) (fun b => F' b ∨ b = a) H' (.ref a) (Sto.put M' a none) p ⟨fun b f => .inl (x.up b f), fun b f => ?_, x.kp, x.al, fun b h => x.md b (mo b h), ⟨⟨fun b f => ?_, fun p c e => ?_⟩, fun b e h => ?_⟩⟩ (.obj (.inr rfl) hA (rr.sub sb) no)
    · rcases f with f | rfl
      · exact x.dn b f
      · rcases x.md b (by rw [hM]; exact fun z => by cases z) with z | z
        · exact .inr (.inr z)
        · exact .inr (.inl z)
    · rcases f with f | rfl
      · exact x.ok.ok.tr b f
      · exact hn
    · obtain ⟨h1, h2, h3⟩ := x.ok.ok.po p c e
      refine ⟨h1, fun f => ?_, fun f => ?_⟩
      · rcases f with f | f
        · exact h2 f
        · exact (np p c e).1 f.symm
      · rcases f with f | f
        · exact h3 f
        · exact (np p c e).2 f.symm
    · by_cases z : b = a
      · rw [z, Sto.put_s] at h
        cases h
      · rw [Sto.put_n z] at h
        obtain ⟨k1, k2, k3⟩ := x.ok.at_ b e h
        exact ⟨fun f => f.elim k1 z, k2, k3.sub sb rfl⟩
  | _ => exact (show False from p).elim⟩
/-- the start of an __init__ -/
theorem so_made {W : Wd} {F : Addr → Prop} {H1 : Hp} {M : Sto} {x dx : Addr} {c : Nat} (ok : SoOk W F H1 M) (hx : H1 x = none) (hdx : H1 dx = none) (hne : dx ≠ x) : Ex2 W F H1 M F (upd (upd H1 dx (.own x)) x (.ins (W.ca c) dx [])) (M.put x (some (.obj c []))) := by
  have e1 : Ext W F H1 F (upd H1 dx (.own x)) := Ext.lay ok.ok hdx
  have e2 : Ext W F (upd H1 dx (.own x)) F (upd (upd H1 dx (.own x)) x (.ins (W.ca c) dx [])) := Ext.lay e1.ok (by rw [upd_ne hne.symm]; exact hx)
  have y := (e1.ex2 ok).trans (e2.ex2 (e1.ex2 ok).ok)
  refine ⟨y.up, y.dn, y.kp, y.al, fun b hb => ?_, y.ok.new_cell (fun f => ok.ok.tr x f hx) (ok.new hx) (ok.ok.pne hx) ⟨dx, [], upd_same, Nat.le_refl _, .nil, fun _ _ => rfl⟩⟩
  by_cases z : b = x
  · rw [z]
    exact .inr hx
  · rw [Sto.put_n z] at hb
    exact .inl hb
theorem fn_runI2 {K : PySem.W.Frag} {ca : Nat → Addr} {c : Nat} {bsp : BSp} {N : List Str} {vs : List V} {H : Hp} {Q : VK} {E : XK} {ts : TS} {bs : BSt} (h : toSpI2 K ca c bsp vs H Q E) (hs : ∀ po, BStm ⟨K, ca, po⟩ (fun _ => E) ts bs) (hl : ∀ ds M X P, bsp ds M X P → ds.length ≤ N.length)
    (hb : ∀ ds M X P, bsp ds M X P → bs { nx := fun _ M => P .non M, rt := P, ex := fun _ => X } (ds.map Sl.d ++ List.replicate (N.length - ds.length) .u) M) : ts { nx := fun _ H' => Q .non H', rt := Q } (L2.start N vs) H := by
  obtain ⟨po, F, H1, x, dx, ws, M, ds, P, X, rfl, rfl, hx, hdx, hne, ok, r, a, xo, k⟩ := h
  have y := so_made (W := ⟨K, ca, po⟩) (c := c) ok hx hdx hne
  have r2 : RvAll ⟨K, ca, po⟩ F (upd (upd H1 dx (.own x)) x (.ins (ca c) dx [])) (.ref x :: ws) (.cell x :: ds) := .cons (.cell x) (r.sub (y.sub ok))
  exact (hs po).run F _ _ F _ _ { nx := fun _ M => P .non M, rt := P, ex := fun _ => X } _ _ F _ _ ⟨⟨.refl y.ok, Sub.refl F _⟩, mt_start2 r2 (hl _ _ X P a)⟩
    ⟨fun σ env F' H' M' b m p => k .non F' H' M' .non p (y.trans b.ex) .non, fun v d F' H' M' b r p => k d F' H' M' v p (y.trans b.ex) r, fun _ _ _ _ _ _ _ p => p.elim, fun _ _ _ _ _ _ _ p => p.elim, fun _ _ _ _ _ b _ => xo.step (y.trans b.ex)⟩ (hb _ _ X P a)
theorem sp_lenI2 {K : PySem.W.Frag} {ca : Nat → Addr} {c n : Nat} {bsp : BSp} (hn : ∀ ds M X P, bsp ds M X P → ds.length = n) {vs : List V} {H : Hp} {Q : VK} {E : XK} (h : toSpI2 K ca c bsp vs H Q E) : vs.length = n := by
  obtain ⟨po, F, H1, x, dx, ws, M, ds, P, X, rfl, rfl, hx, hdx, hne, ok, r, a, xo, k⟩ := h
  have := hn _ _ X P a
  rw [List.length_cons] at this ⊢
  rw [r.length]
  exact this

/-! ### raising classes, calls that may raise -/
structure XMk (P : Program) (w : World) (K : PySem.W.Frag) (mg : Str → Option Value) (base : Heap) (x : Str) (C : Addr) (f : Str) : Prop where
  ex : ∃ (fI : Addr) (fd : FuncData) (ps : List Str), OexC K C ∧ PySem.W.findIn K (.ref C) "__init__" = some (some (.ref fI)) ∧ PySem.W.typeIn K (.ref fI) = some (.type "function") ∧ FnOk P w K mg base CX0 1 fI fd ps (spXI K C f) ∧ Binds K fd ps [] ∧ mg x = some (.ref C)
theorem pmk_x {X : Cx} {x f : Str} {C : Addr} {e : Expr} {es : List Expr} {ta : TA} {p pos : Pos} {k : Nat} (c : XMk X.prog X.w X.K X.mg X.base x C f) (hr : Room k X.A) (hk : 2 ≤ k) (hg : Gl X x) (ha : PA X (e :: es) ta)
    (hdb : (x == ("__debug__" : Str)) = false := by decide) (he : starEach (e :: es) X.env = (false, eval e X.env) :: starEach es X.env := by rfl) (hpl : (backTo pos (starEach es X.env)).any (·.1) = false := by rfl) : PMk X (.Call (.Name x p) (e :: es) [] pos) (tMkO C (spXI X.K C f) [] ta) := by
  obtain ⟨fI, fd, ps, T, iC, tI, F, hb, hm⟩ := c.ex
  exact pmk_oex T iC tI F (hr.mono hk) hb .nil pass0 hg hm ha hdb he hpl
structure CalX (P : Program) (w : World) (K : PySem.W.Frag) (mg : Str → Option Value) (base : Heap) (k : Nat) (x : Str) (sp : Sp) : Prop where
  ex : ∃ (f : Addr) (fd : FuncData) (ps : List Str), FnOk P w K mg base (L2.CX P w) k f fd ps sp ∧ mg x = some (.ref f) ∧ PySem.W.keepIn K (.ref f) = true ∧ Binds K fd ps []
theorem pe_cX {X : Cx} {x : Str} {sp : Sp} {W : WX} {e : Expr} {es : List Expr} {t : TA} {p pos : Pos} {k n : Nat} (c : CalX X.prog X.w X.K X.mg X.base n x sp) (tk : Takes X W) (hr : Room k X.A) (hk : n ≤ k) (hg : Gl X x) (ha : PA X (e :: es) t)
    (hdb : (x == ("__debug__" : Str)) = false := by decide) (he : starEach (e :: es) X.env = (false, eval e X.env) :: starEach es X.env := by rfl) (hpl : (backTo pos (starEach es X.env)).any (·.1) = false := by rfl) : PE X (.Call (.Name x p) (e :: es) [] pos) (tCallS sp (WE W) t) := by
  obtain ⟨f, fd, ps, F, hm, hkp, hb⟩ := c.ex
  exact pe_callS F (hr.mono hk) hg hm hkp hb (fun σ => passAt tk σ) ha hdb he hpl
/-- a class whose __init__ may raise -/
structure MakX (P : Program) (w : World) (K : PySem.W.Frag) (mg : Str → Option Value) (base : Heap) (k : Nat) (x : Str) (C : Addr) (sp : Sp) : Prop where
  ex : ∃ (f : Addr) (fd : FuncData) (ps : List Str), Mk K C f ∧ FnOk P w K mg base (L2.CX P w) k f fd ps sp ∧ mg x = some (.ref C) ∧ Binds K fd ps []
theorem pe_mkX {X : Cx} {x : Str} {C : Addr} {sp : Sp} {W : WX} {e : Expr} {es : List Expr} {t : TA} {p pos : Pos} {k n : Nat} (c : MakX X.prog X.w X.K X.mg X.base n x C sp) (tk : Takes X W) (hr : Room k X.A) (hk : n + 1 ≤ k) (hg : Gl X x) (ha : PA X (e :: es) t)
    (hdb : (x == ("__debug__" : Str)) = false := by decide) (he : starEach (e :: es) X.env = (false, eval e X.env) :: starEach es X.env := by rfl) (hpl : (backTo pos (starEach es X.env)).any (·.1) = false := by rfl) : PE X (.Call (.Name x p) (e :: es) [] pos) (tMakeS C sp (WE W) t) := by
  obtain ⟨f, fd, ps, M, F, hm, hb⟩ := c.ex
  exact pe_makeS M F (hr.mono hk) hg hm hb (fun σ => passAt tk σ) ha hdb he hpl
theorem mkO_of {K : PySem.W.Frag} {C : Addr} {f : Str} {G : Value → Option Addr → Hp → Prop} {vs : List V} {H1 : Hp} (h : ∃ v, vs = [v] ∧ ∀ d, H1 d = none → G (.ref C) (some d) (upd H1 d (.xd [(f, v)]))) : vs.length ≤ 1000 ∧ ∀ a, H1 a = none → spXI K C f (.ref a :: (vs ++ [])) (upd H1 a (exo a C none))
    (fun v H2 => v = .non ∧ ∃ (d : Addr) (fs : List (Str × V)), H2 a = some (exo a C (some d)) ∧ H2 d = some (exd d fs) ∧ H1 d = none ∧ G (.ref C) (some d) (upd (L2.del H2 a) d (.xd fs))) (fun _ _ _ => False) := by
  obtain ⟨v, rfl, hv⟩ := h
  refine ⟨Nat.le_of_ble_eq_true rfl, fun a ha => ⟨a, v, rfl, upd_same, fun dx hdx hne => ⟨rfl, dx, [(f, v)], upd_same, ?_, ?_, ?_⟩⟩⟩
  · rw [upd_ne hne]
    exact upd_same
  · rw [upd_ne hne] at hdx
    exact hdx
  · rw [upd_ne hne] at hdx
    have e : upd (L2.del (upd (upd (upd H1 a (exo a C none)) dx (exd dx [(f, v)])) a (exo a C (some dx))) a) dx (.xd [(f, v)]) = upd H1 dx (.xd [(f, v)]) := by
      funext b
      by_cases h1 : b = dx
      · rw [h1, upd_same, upd_same]
      · rw [upd_ne h1, upd_ne h1]
        by_cases h2 : b = a
        · rw [h2, del_same, ha]
        · rw [del_ne h2, upd_ne h2, upd_ne h1, upd_ne h2]
    rw [e]
    exact hv dx hdx
theorem z_raiseO {W : Wd} {E : XS} {k : Nat} {f : Str} {ta : TA} {ba : BFr} (hf : xcN k = some f) (ha : ∀ H0, BArg W H0 E 1 ta ba) : BStm W E (tRaiseO (W.ca k) (spXI W.K (W.ca k) f) (fun cls d σ H => E σ cls d H) ta) (zRaise k ba) := ⟨fun F0 H0 M0 F1 H1 De Da σ env F H M c kk h =>
  (ha H0).run σ env F H M _ _ _ (c.cfg kk) h fun ds F' H' vs M' p x r l => mkO_of (G := fun cls d H => E σ cls d H) (by
    match ds, l, p, r with
    | [d], _, p, .cons (v := v) r1 .nil =>
      refine ⟨v, rfl, fun dd hd => ?_⟩
      have x2 : Ext W F' H' F' (upd H' dd (.xd [(f, v)])) := Ext.lay x.ok.ok hd
      refine (c.cfg kk).x k [d] (some dd) F' (upd H' dd (.xd [(f, v)])) M' (x.trans (x2.ex2 x.ok)) ?_ (fun a e => by cases e; exact x.there hd) p
      unfold XAt
      rw [hf]
      exact ⟨dd, v, d, rfl, upd_same, rfl, r1.sub (x2.sub x.ok.ok), fun f => x.ok.ok.tr dd f hd, x.ok.new hd, x.ok.ok.pne hd⟩)⟩
theorem coQ_o {k : Nat} {ds : List Dat} {P : Nat → List Dat → Prop} : coQ (some (.obj k ds)) P = P k ds := rfl
theorem isC_c {a b : Addr} : isC (.cell b) a = (b = a) := rfl
theorem pe_globC {X : Cx} {x : Str} {C : Addr} {pos : Pos} (hg : Gl X x) (hm : X.mg x = some (.ref C)) (hd : (x == ("__debug__" : Str)) = false := by decide) : PE X (.Name x pos) (tC (.ref C)) := pe_glob (v := .ref _) hg hm rfl hd

/-! ### calls within a suite: an exception is being handled, the callee asks nothing of it -/
structure Rm (k : Nat) (A : Around) : Prop where
  rm : (A.depth + 3 * k + 5 < recursionLimit) ∧ (A.units + 16 * k + 200 < cLine)
theorem rm_of {k : Nat} {A : Around} (r : Room k A) : Rm k A := ⟨r.dp, r.un⟩
theorem Rm.mono {j k : Nat} {A : Around} (r : Rm k A) (h : j ≤ k) : Rm j A := ⟨by have := r.rm.1; omega, by have := r.rm.2; omega⟩
theorem Rm.deep {k : Nat} {A : Around} (r : Rm (k + 1) A) (env : Env) : Rm k (A.deeper env) := ⟨by have := r.rm.1; show A.depth + 1 + 3 * k + 5 < _; omega, by have := r.rm.2; show A.units + 3 + 16 * k + 200 < _; omega⟩
structure FnW (P : Program) (w : World) (K : PySem.W.Frag) (mg : Str → Option Value) (base : Heap) (k : Nat) (f : Addr) (fd : FuncData) (ps : List Str) (sp : Sp) : Prop where
  ln : ∀ vs H Q E, sp vs H Q E → vs.length = ps.length
  go : ∀ (A : Around) (outer : List Env) (s : Shared) (H : Hp) (args : Args) (us : List Value) (vs : List V) (Q : VK) (E : XK), Rm k A → Env0 P w K mg base A outer s H → BindsTo s fd args (ps.zip us) → Vals vs us → sp vs H Q E → codeAny (model P w) A (.call (.ref f) args) (CR CX0 outer P w H s Q E) s
section
variable {P : Program} {w : World} {K : PySem.W.Frag} {mg : Str → Option Value} {base : Heap}
def cxW (P : Program) (w : World) (K : PySem.W.Frag) (mg : Str → Option Value) (base : Heap) (N : List Str) (qual : Str) (scope : Scope) (f : Addr) (cd : Value) (A : Around) (outer : List Env) (s : Shared) (H : Hp) (E : XK) : Cx := { cxOf CX0 P w K mg base N qual scope f cd A outer s H E with calm := false }
theorem inv_startW {N ps : List Str} {qual : Str} {scope : Scope} {f : Addr} {cd : Value} {A : Around} {outer : List Env} {s s1 : Shared} {H : Hp} {E : XK} {us : List Value} {vs : List V} (S : FnScope N ps scope) (e0 : Env0 P w K mg base A outer s H) (hl : vs.length = ps.length) (r : Vals vs us)
    (x : InCallC s s.heap.objs.size (bindL (envOfC qual scope s.heap.objs.size f cd).kindOf (ps.zip us) fun _ => none) (cellsFrom (s.heap.objs.size + 1) scope.names []) (bindC (envOfC qual scope s.heap.objs.size f cd).kindOf (ps.zip us) fun _ => none) s1) : Inv (cxW P w K mg base N qual scope f cd A outer s H E) [] (L2.start N vs) H s1 := by
  have e1 : Env0 P w K mg base { A with handled := none } outer s H := ⟨e0.frames, e0.mod, e0.bs, e0.bsz, e0.funs, e0.frf, e0.hok, e0.bare⟩
  have J := inv_start (CX := CX0) (E := E) S rfl e1 hl r x
  exact ⟨{ J.ok with hd := fun z => Bool.noConfusion (show false = true from z), frames := Around.frames_deeper e0.frames }, J.os, J.bare, J.base, J.loc, J.cell, J.free, J.freeC, J.pin, J.hok, J.len⟩
theorem fn_ofW {k : Nat} {f : Addr} {name qual : Str} {params : Arguments} {body : List Stmt} {scope : Scope} {dV kV doc pm cdv ct oc : Value} {an od : Option Addr} {osl : Array (Option Value)} {N ps : List Str} {sp : Sp} (lk : K.lookup f = some ⟨oc, od, .func (PySem.W.fnOf name qual params body scope dV kV doc pm an cdv ct), osl⟩)
    (hcd : PySem.W.codeIn K cdv qual = true) (S : FnScope N ps scope) (ln : ∀ vs H Q E, sp vs H Q E → vs.length = ps.length)
    (hbody : ∀ (A : Around) (outer : List Env) (s : Shared) (H : Hp) (vs : List V) (Q : VK) (E : XK), Rm k (A.deeper (envOfC qual scope s.heap.objs.size f cdv)) → sp vs H Q E → ∃ t, PSs (cxW P w K mg base N qual scope f cdv A outer s H E) body t ∧ t { nx := fun _ H' => Q .non H', rt := Q } (L2.start N vs) H) :
    FnW P w K mg base (k + 1) f (PySem.W.fnOf name qual params body scope dV kV doc pm an cdv ct) ps sp := by
  refine ⟨ln, fun A outer s H args us vs Q E hr e0 hb r hsp => ?_⟩
  have KX : K.In s.heap := e0.mod.kin.keeps fun b o e => (e0.bs b o e).1
  have hkind : ∀ y ∈ ps.zip us, scope.names.lookup y.1 = some .local ∨ (scope.names.lookup y.1 = some .cell ∧ ((cellsFrom (s.heap.objs.size + 1) scope.names []).lookup y.1).isSome = true) := fun ⟨n, v⟩ hy => (S.par n (List.of_mem_zip hy).1).elim .inl fun q => .inr ⟨q, PySem.W.cellsFrom_some _ _ _ (.inl q)⟩
  refine codeAny_call_function (by have := hr.rm.1; omega) (KX _ _ lk) rfl S.co S.gen rfl (PySem.W.codeRec_of KX hcd) (hb _ _ _ _ (wpAny_newFunctionEnv_cells S.kind hkind fun env he s1 x => ?_))
  subst he
  refine ⟨(e0.mod.nolimit.keeps fun b o e => (e0.bs b o e).1).keeps x.toInCall.keep, codeAny_func ?_⟩
  obtain ⟨t, ht, hq⟩ := hbody A outer s H vs Q E (hr.deep _) hsp
  refine wpAny_mono (ht.run [] s1 (L2.start N vs) H _ (inv_startW S e0 (ln _ _ _ _ hsp) r x) hq) (fun fl s' hs => ?_) fun e s' hs => hs
  cases fl with
  | ret u => obtain ⟨v, σ', H', J, rv, q⟩ := hs; exact ⟨v, H', J.os, J.bare, J.base, J.hok, rv, q⟩
  | next => obtain ⟨σ', H', J, q⟩ := hs; exact ⟨.non, H', J.os, J.bare, J.base, J.hok, rfl, q⟩
  | brk => obtain ⟨_, _, _, q⟩ := hs; exact q.elim
  | cont => obtain ⟨_, _, _, q⟩ := hs; exact q.elim
theorem fun_okW {x qual : Str} {st : Stmt} {f : Addr} {fd : FuncData} {N ps : List Str} {k : Nat} {sp : Sp} (F : Fun K x qual st f fd) (S : FnScope N ps (defScope st)) (ln : ∀ vs H Q E, sp vs H Q E → vs.length = ps.length)
    (hbody : ∀ (cdv : Value) (A : Around) (outer : List Env) (s : Shared) (H : Hp) (vs : List V) (Q : VK) (E : XK), Rm k (A.deeper (envOfC qual (defScope st) s.heap.objs.size f cdv)) → sp vs H Q E → ∃ t, PSs (cxW P w K mg base N qual (defScope st) f cdv A outer s H E).nox (defBody st) t ∧ t { nx := fun _ H' => Q .non H', rt := Q } (L2.start N vs) H) : FnW P w K mg base (k + 1) f fd ps sp := by
  obtain ⟨oc, od, kV, doc, pm, an, cdv, ct, osl, rfl, lk, hcd⟩ := F.ex
  refine fn_ofW lk hcd S ln fun A outer s H vs Q E hr hsp => ?_
  obtain ⟨t, h, q⟩ := hbody cdv A outer s H vs Q E hr hsp
  exact ⟨t, h.nox, q⟩
/-- a def that a suite may call -/
structure CalW (P : Program) (w : World) (K : PySem.W.Frag) (mg : Str → Option Value) (base : Heap) (k : Nat) (x : Str) (sp : Sp) : Prop where
  ex : ∃ (f : Addr) (fd : FuncData) (ps : List Str), FnW P w K mg base k f fd ps sp ∧ mg x = some (.ref f) ∧ PySem.W.keepIn K (.ref f) = true ∧ Binds K fd ps []
end
section
variable {X : Cx} {k j : Nat} {x : Str} {sp : Sp} {p pos : Pos} {e : Expr} {es : List Expr} {t : TA}
theorem pe_cW (c : CalW X.prog X.w X.K X.mg X.base k x sp) (hr : Rm j X.A) (hk : k ≤ j) (hg : Gl X x) (ha : PA X (e :: es) t) (hdb : (x == ("__debug__" : Str)) = false := by decide) (he : starEach (e :: es) X.env = (false, eval e X.env) :: starEach es X.env := by rfl) (hpl : (backTo pos (starEach es X.env)).any (·.1) = false := by rfl) :
    PE X (.Call (.Name x p) (e :: es) [] pos) (tCall sp [] E0 t) := by
  obtain ⟨f, fd, ps, F, hm, hkp, hb⟩ := c.ex
  refine ⟨fun pins s σ H Q I h => wpAny_Call_Name_kw (ld_glob I hg hm (PySem.W.callWith_K (h₀ := X.base) I.ok.mod.kin hkp (thn (ha.run pos pins s σ H _ I h) fun us s1 ⟨vs, H1, I1, r, q⟩ => ⟨I1.kIn, ?_⟩) he hpl) hdb)⟩
  have q : sp (vs ++ []) H1 Q E0 := q
  rw [List.append_nil] at q
  have b := hb s1 us I1.kIn (by rw [List.append_nil, ← r.length]; exact F.ln _ _ _ _ q)
  rw [List.append_nil] at b
  refine wpAny_call (codeAny_mono (F.go X.A X.stack s1 H1 ⟨us, []⟩ us vs Q E0 (hr.mono hk) I1.env0 b r q) fun r s' hq => ?_)
  cases r with
  | error e => exact hq.elim
  | ok fl => cases fl with
    | ret u => exact I1.after hq
    | _ => exact False.elim hq
end
/-! ### a try whose body raises one class -/
theorem z_try1 {W : Wd} {E : XS} {i k0 : Nat} {cv : Value} {tb : WX → TS} {ts : Addr → Value → Option Addr → TS} {bb : BSt} {bs : Addr → Addr → BSt} {Wout : WX} (hks : ∀ k ∈ [k0], (∃ f, xcN k = some f) ∧ PySem.W.exmOne W.K (.ref (W.ca k)) cv = some true) (hb : ∀ Wx : WX, BStm W (fun σ cls d H => Wx cls d σ H) (tb Wx) bb)
    (hs : ∀ a dd, BStm W E (ts a (.ref (W.ca k0)) (some dd)) (bs a dd)) : BStm W E (fun D σ H => tb (wAs W.K cv i ts Wout D) D σ H) (zTry i [k0] bb fun _ => bs) :=
  z_try hks hb fun k hk a dd => by
    obtain rfl := List.mem_singleton.mp hk
    exact hs a dd

def top (i : Nat) : Stmt := PySem.Challenge.pw_vouchdoor_k01_groups.main.body.getD i (.Pass ⟨0, 0, 0, 0⟩)
local macro_rules | `(tactic| walk_at "hp") => `(tactic| first
  | (with_reducible assumption)
  | exact upd_same
  | (refine (upd_ne (by with_reducible assumption)).trans ?_; walk_at "hp"))
local macro_rules | `(tactic| walk_at "kit") => `(tactic| first
  | with_reducible exact kit_NoneType_tuple
  | with_reducible exact kit_NoneType_list
  | with_reducible exact kit_NoneType_bool
  | with_reducible exact kit_NoneType_int
  | with_reducible exact kit_NoneType_str
  | with_reducible exact kit_bool_tuple
  | with_reducible exact kit_bool_list
  | with_reducible exact kit_bool_bool
  | with_reducible exact kit_bool_int
  | with_reducible exact kit_bool_str
  | with_reducible exact kit_int_tuple
  | with_reducible exact kit_int_list
  | with_reducible exact kit_int_bool
  | with_reducible exact kit_int_int
  | with_reducible exact kit_int_str
  | with_reducible exact kit_str_tuple
  | with_reducible exact kit_str_list
  | with_reducible exact kit_str_bool
  | with_reducible exact kit_str_int
  | with_reducible exact kit_str_str
  | with_reducible exact kit_list_tuple
  | with_reducible exact kit_list_list
  | with_reducible exact kit_list_bool
  | with_reducible exact kit_list_int
  | with_reducible exact kit_list_str
  | with_reducible exact kit_tuple_tuple
  | with_reducible exact kit_tuple_list
  | with_reducible exact kit_tuple_bool
  | with_reducible exact kit_tuple_int
  | with_reducible exact kit_tuple_str)
local macro_rules | `(tactic| walk_at "ty") => `(tactic| first
  | with_reducible exact .base .non
  | with_reducible exact .base (.bl _)
  | with_reducible exact .base (.int _)
  | with_reducible exact .base (.str _)
  | exact .base (.lst (by walk_at "hp"))
  | exact .base (.tup (by walk_at "hp")))
local macro_rules | `(tactic| walk_at "sq") => `(tactic| first
  | (with_reducible assumption)
  | exact SqL.of (by walk_at "hp")
  | exact SqT.of (by walk_at "hp")
  | ((with_reducible refine (?_ : SqL _ _ _ _)); assumption)
  | ((with_reducible refine (?_ : SqT _ _ _ _)); assumption))
local macro_rules | `(tactic| walk_at "eq") => `(tactic| ((with_reducible refine (?_ : @Eq _ _ _)); rfl))
local macro_rules | `(tactic| walk_at "side") => `(tactic| first
  | (with_reducible assumption)
  | walk_at "eq"
  | ((with_reducible refine (?_ : _ ≤ sizeLine)); exact Nat.le_of_ble_eq_true rfl)
  | omega
  | (show (0 : Int) < _; omega)
  | ((with_reducible refine (?_ : SqL _ _ _ _)); walk_at "sq")
  | ((with_reducible refine (?_ : SqT _ _ _ _)); walk_at "sq")
  | ((with_reducible refine (?_ : _ = some _)); walk_at "hp")
  | ((with_reducible refine (?_ : tyV _ _ _ _)); exact Or.inl ⟨rfl, _, SqL.of (by walk_at "hp")⟩)
  | exact flat_ints _
  | ((with_reducible refine (?_ : Cls _ _)); assumption)
  | ((with_reducible refine (?_ : NoAttr _ _ _)); assumption)
  | ((with_reducible refine (?_ : List.length _ < 1000)); exact Nat.le_of_ble_eq_true rfl)
  | exact ⟨_, SqL.of (by walk_at "hp")⟩
  | exact ⟨_, SqT.of (by walk_at "hp")⟩
  | (show CMul _ _; first | (exact Or.inl ⟨by omega, by omega⟩) | (exact Or.inr ⟨by omega, by omega⟩))
  | (show CDiv _ _; exact ⟨by omega, by omega⟩)
  | (show CPow _ _; exact ⟨by decide, by decide, by decide⟩))
local macro_rules | `(tactic| walk_at "size") => `(tactic| exact len_size (by (try rw [List.length_map]); omega))
local macro_rules | `(tactic| walk_at "s") => `(tactic| first
  | refine ⟨propOnly (by walk_at "side"), ?_⟩
  | refine ⟨_, (by walk_at "eq"), ?_⟩
  | refine ⟨_, _, (by walk_at "eq"), (by walk_at "eq"), ?_⟩
  | refine ⟨_, _, (by walk_at "eq"), propOnly (by walk_at "side"), ?_⟩
  | refine ⟨_, _, (by walk_at "eq"), ?_⟩
  | refine ⟨_, _, _, _, (by walk_at "eq"), (by walk_at "eq"), (by walk_at "sq"), (by walk_at "eq"), ?_⟩
  | refine ⟨_, _, _, _, (by walk_at "eq"), (by walk_at "eq"), (by walk_at "hp"), (by walk_at "eq"), ?_⟩
  | refine ⟨_, _, (by walk_at "eq"), .inl (by walk_at "sq"), ?_⟩
  | refine ⟨_, _, (by walk_at "eq"), .inr (by walk_at "sq"), ?_⟩
  | refine ⟨_, _, _, _, _, (by walk_at "eq"), .ty _, (by walk_at "ty"), (by walk_at "kit"), ?_⟩
  | refine Or.inl ⟨_, (by walk_at "eq"), ?_⟩
  | refine ⟨_, _, _, (by walk_at "eq"), (by walk_at "eq"), (by walk_at "hp"), propOnly (by walk_at "size"), ?_⟩
  | refine ⟨_, _, _, (by walk_at "eq"), propOnly (by walk_at "side"), ?_⟩
  | refine ⟨_, _, _, _, (by walk_at "eq"), propOnly (by walk_at "side"), ?_⟩
  | refine ⟨_, _, _, _, _, (by walk_at "eq"), propOnly (by walk_at "side"), ?_⟩
  | refine ⟨_, _, _, _, _, _, (by walk_at "eq"), propOnly (by walk_at "side"), ?_⟩
  | refine ⟨_, _, _, (by walk_at "eq"), ?_⟩
  | refine ⟨_, _, _, _, (by walk_at "eq"), ?_⟩
  | ((with_reducible refine iteCT ?hc ?hr); case hc => rfl)
  | ((with_reducible refine iteCF ?hc ?hr); case hc => rfl))
local macro_rules | `(tactic| walk_at "go") => `(tactic| repeat walk_at "s")


/-! ### power, is_prime, inverse -/
abbrev s_is_prime : Stmt := top 9
theorem sc_is_prime : FnScope ["number", "divisor"] ["number"] (defScope s_is_prime) := ⟨rfl, rfl, rfl, by decide +kernel, rfl, by decide +kernel, by decide +kernel⟩
abbrev s_power : Stmt := top 10
theorem sc_power : FnScope ["base", "exponent", "modulus", "result", "square", "left"] ["base", "exponent", "modulus"] (defScope s_power) := ⟨rfl, rfl, rfl, by decide +kernel, rfl, by decide +kernel, by decide +kernel⟩
section
variable {P : Program} {w : World} {K : PySem.W.Frag} {mg : Str → Option Value} {base : Heap}
def Pr (n : Int) : Prop := 2 ≤ n ∧ ∀ d : Int, 2 ≤ d → d * d ≤ n → n % d ≠ 0
def spPower : Sp := fun vs H Q _ => ∃ a e m : Int, vs = [.int a, .int e, .int m] ∧ 0 ≤ e ∧ 0 < m ∧ m < 2147483648 ∧ Q (.int (a ^ e.toNat % m)) H
theorem ok_power {f : Addr} {fd : FuncData} (F : Fun K "power" "power" s_power f fd) : FnOk P w K mg base CX0 1 f fd ["base", "exponent", "modulus"] spPower := by
  refine F.ok sc_power (fun vs H Q E h => ?_) (fun cdv A outer s H vs Q E hr h => ?_)
  · obtain ⟨a, e, m, rfl, _⟩ := h
    rfl
  · obtain ⟨a, e, m, rfl, he, hm, hm2, q⟩ := h
    obtain ⟨n, rfl⟩ : ∃ n : Nat, e = n := ⟨e.toNat, by omega⟩
    rw [Int.toNat_natCast] at q
    refine ⟨_, (pss_cons (ps_set (i := 3) sc_power.nd rfl (.inl rfl) (pe_op op_mod pe_int (pv 2)))
      (pss_cons (ps_set (i := 4) sc_power.nd rfl (.inl rfl) (pe_op op_mod (pv 0) (pv 2)))
      (pss_cons (ps_set (i := 5) sc_power.nd rfl (.inl rfl) (pv 1))
      (pss_cons (ps_while PassesOwn.never (pt_cmpR op_gt (pv 5) pe_int (nomark _)) (pss_cons (ps_if (pt_cmpR op_eq (pe_op op_mod (pv 5) pe_int) pe_int (nomark _)) (pss_one (ps_set (i := 3) sc_power.nd rfl (.inl rfl) (pe_op op_mod (pe_op op_mul (pv 3) (pv 4)) (pv 2)))) pss_nil)
      (pss_cons (ps_set (i := 4) sc_power.nd rfl (.inl rfl) (pe_op op_mod (pe_op op_mul (pv 4) (pv 4)) (pv 2)))
      (pss_one (ps_set (i := 5) sc_power.nd rfl (.inl rfl) (pe_op op_fdiv (pv 5) pe_int))))))
      (pss_one (ps_ret (pv 3))))))), ?_⟩
    walk_at "go"
    have b1 := emod_bd (a := 1) hm
    have b2 := emod_bd (a := a) hm
    refine ⟨fun k σ H' => At (∃ (r s : Int) (l : Nat), σ = [some (.int a), some (.int n), some (.int m), some (.int r), some (.int s), some (.int l)] ∧ H' = H ∧ 0 ≤ r ∧ r < m ∧ 0 ≤ s ∧ s < m ∧ r * s ^ l % m = a ^ n % m ∧ l = k),
      ⟨n, .of ⟨_, _, _, rfl, rfl, b1.1, b1.2, b2.1, b2.2, ?_, rfl⟩⟩, ?_⟩
    · rw [← mul_emod_r, pow_emod, mul_emod_r, mul_emod_l, Int.one_mul]
    rintro k σ H' hW
    obtain ⟨r, s, l, rfl, rfl, r0, r1, s0, s1, e, rfl⟩ := hW.out
    have b3 := emod_bd (a := r * s) hm
    have b4 := emod_bd (a := s * s) hm
    walk_at "go"
    refine iteD (fun h => ?_) (fun h => ?_)
    · refine ⟨_, fun _ _ h => h, ?_⟩
      walk_at "go"
      refine iteD (fun o => ?_) (fun o => ?_)
      · have o' : l % 2 = 1 := by
          have := V.int.inj o
          omega
        walk_at "go"
        exact ⟨l / 2, by omega, .of ⟨r * s % m, s * s % m, l / 2, rfl, rfl, b3.1, b3.2, b4.1, b4.2, power_odd e o', rfl⟩⟩
      · have o' : ¬ l % 2 = 1 := fun z => o (congrArg V.int (by omega))
        walk_at "go"
        exact ⟨l / 2, by omega, .of ⟨r, s * s % m, l / 2, rfl, rfl, r0, r1, b4.1, b4.2, power_even e o', rfl⟩⟩
    · walk_at "go"
      have : l = 0 := by omega
      subst this
      rw [Int.pow_zero, Int.mul_one, Int.emod_eq_of_lt r0 r1] at e
      rw [e]
      exact q
def spIsPrime : Sp := fun vs H Q _ => ∃ n : Int, vs = [.int n] ∧ n < 1073741824 ∧ ∀ b : Bool, (b = true ↔ Pr n) → Q (.bl b) H
theorem ok_is_prime {f : Addr} {fd : FuncData} (F : Fun K "is_prime" "is_prime" s_is_prime f fd) : FnOk P w K mg base CX0 1 f fd ["number"] spIsPrime := by
  refine F.ok sc_is_prime (fun vs H Q E h => ?_) (fun cdv A outer s H vs Q E hr h => ?_)
  · obtain ⟨n, rfl, _⟩ := h
    rfl
  · obtain ⟨n, rfl, hn, q⟩ := h
    refine ⟨_, (pss_cons (ps_if (pt_cmpR op_lt (pv 0) pe_int (nomark _)) (pss_one (ps_ret pe_bl)) pss_nil)
      (pss_cons (ps_set (i := 1) sc_is_prime.nd rfl (.inl rfl) pe_int)
      (pss_cons (ps_while PassesOwn.never (pt_cmpR op_le (pe_op op_mul (pv 1) (pv 1)) (pv 0) (nomark _)) (pss_cons (ps_if (pt_cmpR op_eq (pe_op op_mod (pv 0) (pv 1)) pe_int (nomark _)) (pss_one (ps_ret pe_bl)) pss_nil)
      (pss_one (ps_aug (i := 1) sc_is_prime.nd rfl (.inl rfl) (pe_ifExp (pt_cmpR op_eq (pv 1) pe_int (nomark _)) pe_int pe_int) ip_add))))
      (pss_one (ps_ret pe_bl))))), ?_⟩
    walk_at "go"
    refine iteD (fun c => ?_) (fun c => ?_)
    · walk_at "go"
      exact q _ ⟨fun z => (by cases z), fun z => absurd z.1 (by omega)⟩
    walk_at "go"
    refine ⟨fun k σ H' => At (∃ d : Int, σ = [some (.int n), some (.int d)] ∧ H' = H ∧ 2 ≤ d ∧ (d = 2 ∨ d % 2 = 1) ∧ d ≤ n + 2 ∧ (∀ e : Int, 2 ≤ e → e < d → n % e ≠ 0) ∧ (n + 2 - d).toNat = k),
      ⟨_, .of ⟨2, rfl, rfl, by omega, .inl rfl, by omega, fun e h1 h2 => by omega, rfl⟩⟩, ?_⟩
    rintro k σ H' hW
    obtain ⟨d, rfl, rfl, h2, par, dn, hd, hk⟩ := hW.out
    walk_at "go"
    refine iteD (fun h => ?_) (fun h => ?_)
    · have dle : d ≤ n := by
        have := Int.mul_le_mul_of_nonneg_right h2 (show (0 : Int) ≤ d by omega)
        omega
      refine ⟨_, fun _ _ h => h, ?_⟩
      walk_at "go"
      refine iteD (fun o => ?_) (fun o => ?_)
      · walk_at "go"
        exact q _ ⟨fun z => (by cases z), fun z => absurd (V.int.inj o) (z.2 d h2 h)⟩
      · have o' : n % d ≠ 0 := fun z => o (congrArg V.int z)
        walk_at "go"
        refine iteD (fun c2 => ?_) (fun c2 => ?_)
        · have c2' : d = 2 := V.int.inj c2
          walk_at "go"
          refine ⟨(n + 2 - (d + 1)).toNat, by omega, .of ⟨d + 1, rfl, rfl, by omega, by omega, by omega, fun e h1 h2 => ?_, rfl⟩⟩
          have : e = d := by omega
          subst this
          exact o'
        · have c2' : d ≠ 2 := fun z => c2 (congrArg V.int z)
          walk_at "go"
          refine ⟨(n + 2 - (d + 2)).toNat, by omega, .of ⟨d + 2, rfl, rfl, by omega, by omega, by omega, fun e h1 h2 => ?_, rfl⟩⟩
          by_cases e1 : e < d
          · exact hd e h1 e1
          · by_cases e2 : e = d
            · subst e2
              exact o'
            · have e3 : e % 2 = 0 := by omega
              refine fun z => hd 2 (by omega) (by omega) ?_
              have := Int.dvd_trans (Int.dvd_of_emod_eq_zero e3) (Int.dvd_of_emod_eq_zero z)
              exact Int.emod_eq_zero_of_dvd this
    · walk_at "go"
      refine q _ ⟨fun _ => ⟨by omega, fun e h1 h3 => ?_⟩, fun _ => rfl⟩
      by_cases e1 : e < d
      · exact hd e h1 e1
      · have := Int.mul_le_mul (show d ≤ e by omega) (show d ≤ e by omega) (by omega) (by omega)
        omega
end

abbrev s__law_draw : Stmt := top 22
theorem sc__law_draw : FnScope ["pool", "size", "cell", "value"] ["pool", "size"] (defScope s__law_draw) := ⟨rfl, rfl, rfl, by decide +kernel, rfl, by decide +kernel, by decide +kernel⟩
/-! ### the draw again, with the pool told -/
def KeepP (p : Addr) (H H' : Hp) : Prop := ∀ b o, b ≠ p → H b = some o → H' b = some o
theorem KeepP.refl (p : Addr) (H : Hp) : KeepP p H H := fun _ _ _ h => h
theorem keepP_pool {H0 H : Hp} {p : Addr} {o u : HO} (s : KeepP p H0 H) (_h : H0 p = some u) (_hu : poolO u = true) : KeepP p H0 (upd H p o) := fun b x n e => by
  rw [upd_ne n]
  exact s b x n e
section
variable {P : Program} {w : World} {K : PySem.W.Frag} {mg : Str → Option Value} {base : Heap}
def spDrawP : Sp := fun vs H Q _ => ∃ (p c : Addr) (n : Int), vs = [.ref p, .int n] ∧ PoolAt H p c ∧ 0 < n ∧ n < 1073741824 ∧
  ∀ v H', 0 ≤ v → v < n → PoolAt H' p c → KeepP p H H' → Q (.int v) H'
set_option maxHeartbeats 1000000 in
theorem ok_law_drawP {f : Addr} {fd : FuncData} (F : Fun K "_law_draw" "_law_draw" s__law_draw f fd) (B : Blt mg) : FnOk P w K mg base CX0 1 f fd ["pool", "size"] spDrawP := by
  refine F.ok sc__law_draw (fun vs H Q E h => ?_) (fun cdv A outer s H vs Q E hr h => ?_)
  · obtain ⟨p, c, n, rfl, _⟩ := h
    rfl
  · obtain ⟨p, c, n, rfl, ⟨ns, i, m, t, b, z, h1, h2, i0, t0, t1⟩, n0, n1, q⟩ := h
    have hu := hu_of hr
    refine ⟨_, (C8.pss_cut (ps_if (PW.pt (pw_and (pt_cmpR op_le (pe_ix (kixl (K := K) rfl) (pv 0) pe_int (fun _ _ => rfl)) pe_int (nomark _)) (pw_and (pt_cmpR op_le (pe_ix (kixl (K := K) rfl) (pv 0) pe_int (fun _ _ => rfl)) pe_int (nomark _)) (pw_and1 (pt_cmpR op_lt (pe_ix (kixl (K := K) rfl) (pv 0) pe_int (fun _ _ => rfl)) (pe_callB (klen (K := K) rfl) (by rfl) B.len bt_len (pa_cons (pe_ix (kixl (K := K) rfl) (pv 0) pe_int (fun _ _ => rfl)) pa_nil)) (nomark _)))))) (pss_cons (ps_set (i := 2) sc__law_draw.nd rfl (.inl rfl) (pe_ix (kixl (K := K) rfl) (pe_ix (kixl (K := K) rfl) (pv 0) pe_int (fun _ _ => rfl)) (pe_ix (kixl (K := K) rfl) (pv 0) pe_int (fun _ _ => rfl)) (fun _ _ => rfl)))
      (pss_cons (ps_asg (pe_op op_add (pe_ix (kixl (K := K) rfl) (pv 0) pe_int (fun _ _ => rfl)) pe_int) (pg_sub (pv 0) pe_int set_list))
      (pss_cons (ps_asg (pe_op op_mod (pe_callTy call_int1 (by rfl) B.int bt_int (pa_cons (pe_op op_add (pe_op op_mul (pe_ix (kixl (K := K) rfl) (pv 0) pe_int (fun _ _ => rfl)) pe_int) (pv 2)) pa_nil)) pe_int) (pg_sub (pv 0) pe_int set_list))
      (pss_cons (ps_asg pe_int (pg_sub (pv 0) pe_int set_list))
      (pss_one (ps_if (pt_cmpR op_ge (pv 2) (pe_op op_pow pe_int pe_int) (nomark _)) (pss_one (ps_asg (pv 2) (pg_sub (pv 0) pe_int set_list))) pss_nil)))))) pss_nil)
      (pss_cons (ps_if (pt_cmpR op_gt (pe_ix (kixl (K := K) rfl) (pv 0) pe_int (fun _ _ => rfl)) pe_int (nomark _)) (pss_cons (ps_set (i := 3) sc__law_draw.nd rfl (.inl rfl) (pe_op op_mod (pe_callTy call_int1 (by rfl) B.int bt_int (pa_cons (pe_ix (kixl (K := K) rfl) (pv 0) pe_int (fun _ _ => rfl)) pa_nil)) (pv 1)))
      (pss_cons (ps_asg (pe_op op_fdiv (pe_ix (kixl (K := K) rfl) (pv 0) pe_int (fun _ _ => rfl)) (pv 1)) (pg_sub (pv 0) pe_int set_list))
      (pss_cons (ps_asg pe_int (pg_sub (pv 0) pe_int set_list))
      (pss_one (ps_ret (pv 3)))))) pss_nil)
      (pss_cons (ps_asg (pe_op op_sub (pe_ix (kixl (K := K) rfl) (pv 0) pe_int (fun _ _ => rfl)) pe_int) (pg_sub (pv 0) pe_int set_list))
      (pss_cons (ps_asg (pe_op op_mod (pe_callTy call_int1 (by rfl) B.int bt_int (pa_cons (pe_op op_add (pe_op op_mul (pe_ix (kixl (K := K) rfl) (pv 0) pe_int (fun _ _ => rfl)) pe_int) pe_int) pa_nil)) pe_int) (pg_sub (pv 0) pe_int set_list))
      (pss_one (ps_ret (pe_op op_mod (pe_op op_mod (pe_callTy call_int1 (by rfl) B.int bt_int (pa_cons (pe_op op_add (pe_op op_mul (pe_ix (kixl (K := K) rfl) (pv 0) pe_int (fun _ _ => rfl)) pe_int) pe_int) pa_nil)) pe_int) (pv 1)))))))), ?_⟩
    have ncp : c ≠ p := fun e => by
      rw [e, h1] at h2
      cases ns with
      | nil => cases h2
      | cons y ys => cases h2
    refine ⟨fun σ' H' => At (∃ (x : Option V) (i m t b : Int), σ' = [some (.ref p), some (.int n), x, none] ∧ H' p = some (.lst [.ref c, .int i, .int m, .int t, .int b, .int z]) ∧ H' c = some (.lst (ns.map V.int)) ∧ 0 ≤ i ∧ 0 ≤ t ∧ t < 2147483647 ∧ KeepP p H H'), ?_, ?_⟩
    · have out : ∃ (x : Option V) (i m t b : Int), (L2.start ["pool", "size", "cell", "value"] [.ref p, .int n]) = [some (.ref p), some (.int n), x, none] ∧ H p = some (.lst [.ref c, .int i, .int m, .int t, .int b, .int z]) ∧ H c = some (.lst (ns.map V.int)) ∧ 0 ≤ i ∧ 0 ≤ t ∧ t < 2147483647 ∧ KeepP p H H :=
        ⟨none, i, m, t, b, rfl, h1, h2, i0, t0, t1, KeepP.refl p H⟩
      walk_at "go"
      refine iteD (fun c1 => ?_) (fun c1 => ?_)
      · walk_at "go"
        refine iteD (fun c2 => ?_) (fun c2 => ?_)
        · walk_at "go"
          refine iteD (fun c3 => ?_) (fun c3 => ?_)
          · have c3' : i < (ns.length : Int) := by
              rw [List.length_map] at c3
              exact c3
            obtain ⟨y, ha⟩ : ∃ y, atI (ns.map V.int) i = some (.int y) := by
              have hlt : i.toNat < ns.length := by omega
              refine ⟨ns[i.toNat], at_of (j := i.toNat) (by omega) ?_⟩
              rw [List.getElem?_map, List.getElem?_eq_getElem hlt]
              rfl
            walk_at "go"
            refine ⟨_, _, _, _, rfl, rfl, SqL.of h2, ha, ?_⟩
            walk_at "go"
            have fin : ∀ (mm : Int) (H' : Hp) (hp : H' p = some (.lst [.ref c, .int (i + 1), .int mm, .int ((t * 31 + y) % 2147483647), .int 7, .int z])) (hc : H' c = some (.lst (ns.map V.int))) (hk : KeepP p H H'),
                ∃ (x : Option V) (i m t b : Int), ((L2.start ["pool", "size", "cell", "value"] [.ref p, .int n]).set 2 (some (V.int y))) = [some (.ref p), some (.int n), x, none] ∧ H' p = some (.lst [.ref c, .int i, .int m, .int t, .int b, .int z]) ∧ H' c = some (.lst (ns.map V.int)) ∧ 0 ≤ i ∧ 0 ≤ t ∧ t < 2147483647 ∧ KeepP p H H' :=
              fun mm H' hp hc hk => ⟨_, i + 1, mm, _, 7, rfl, hp, hc, by omega, by omega, by omega, hk⟩
            refine iteD (fun c4 => ?_) (fun c4 => ?_)
            · walk_at "go"
              exact .of (fin _ _ upd_same (by rw [upd_ne ncp, upd_ne ncp, upd_ne ncp, upd_ne ncp]; exact h2) (keepP_pool (keepP_pool (keepP_pool (keepP_pool (KeepP.refl p H) h1 rfl) h1 rfl) h1 rfl) h1 rfl))
            · walk_at "go"
              exact .of (fin _ _ upd_same (by rw [upd_ne ncp, upd_ne ncp, upd_ne ncp]; exact h2) (keepP_pool (keepP_pool (keepP_pool (KeepP.refl p H) h1 rfl) h1 rfl) h1 rfl))
          · walk_at "go"
            exact .of out
        · walk_at "go"
          exact .of out
      · walk_at "go"
        exact .of out
    · intro σ' H' hW
      obtain ⟨x, i, m, t, b, rfl, h1', h2', i0, t0, t1, hk⟩ := hW.out
      have fin : ∀ (v : Int) (mm tt bb : Int) (H2 : Hp), 0 ≤ v → v < n → H2 p = some (.lst [.ref c, .int i, .int mm, .int tt, .int bb, .int z]) → H2 c = some (.lst (ns.map V.int)) → 0 ≤ tt → tt < 2147483647 → KeepP p H H2 → Q (.int v) H2 :=
        fun v mm tt bb H2 v0 v1 a1 a2 a3 a4 a5 => q v H2 v0 v1 ⟨ns, i, mm, tt, bb, z, a1, a2, i0, a3, a4⟩ a5
      walk_at "go"
      refine iteD (fun c1 => ?_) (fun c1 => ?_)
      · walk_at "go"
        exact fin _ _ _ _ _ (Int.emod_nonneg _ (by omega)) (Int.emod_lt_of_pos _ n0) upd_same (by rw [upd_ne ncp, upd_ne ncp]; exact h2') t0 t1 (keepP_pool (keepP_pool hk h1 rfl) h1 rfl)
      · walk_at "go"
        exact fin _ _ _ _ _ (Int.emod_nonneg _ (by omega)) (Int.emod_lt_of_pos _ n0) upd_same (by rw [upd_ne ncp, upd_ne ncp]; exact h2') (by omega) (by omega) (keepP_pool (keepP_pool hk h1 rfl) h1 rfl)
end

local macro_rules | `(tactic| walk_at "sd") => `(tactic| first
  | (with_reducible assumption)
  | rfl
  | omega
  | (show CMul _ _; first | (exact Or.inl ⟨by omega, by omega⟩) | (exact Or.inr ⟨by omega, by omega⟩))
  | (show CDiv _ _; exact ⟨by omega, by omega⟩)
  | (show CPow _ _; exact ⟨by decide, by decide, by decide⟩)
  | (show (0 : Int) < _; omega))
local macro_rules | `(tactic| walk_at "nf") => `(tactic| simp only [List.map_cons, List.map_nil, List.cons_append, List.nil_append, List.length_cons, List.length_nil, Nat.reduceAdd, Nat.reduceSub, List.replicate_succ, List.replicate_zero, List.set_cons_zero, List.set_cons_succ, gA])

/-! ### groups -/
abbrev s_Group___init__ : Stmt := inClass (top 16) 0
theorem sc_Group___init__ : FnScope ["self", "p", "q", "bases"] ["self", "p", "q", "bases"] (defScope s_Group___init__) := ⟨rfl, rfl, rfl, by decide +kernel, rfl, by decide +kernel, by decide +kernel⟩
abbrev s_Group_raised : Stmt := inClass (top 16) 3
theorem sc_Group_raised : FnScope ["self", "element", "exponent"] ["self", "element", "exponent"] (defScope s_Group_raised) := ⟨rfl, rfl, rfl, by decide +kernel, rfl, by decide +kernel, by decide +kernel⟩
abbrev s_Group_product : Stmt := inClass (top 16) 4
theorem sc_Group_product : FnScope ["self", "pairs", "result", "element", "exponent"] ["self", "pairs"] (defScope s_Group_product) := ⟨rfl, rfl, rfl, by decide +kernel, rfl, by decide +kernel, by decide +kernel⟩
abbrev s__is_root : Stmt := top 17
theorem sc__is_root : FnScope ["p", "q", "number"] ["p", "q", "number"] (defScope s__is_root) := ⟨rfl, rfl, rfl, by decide +kernel, rfl, by decide +kernel, by decide +kernel⟩
abbrev s__check_primes : Stmt := top 18
theorem sc__check_primes : FnScope ["p", "q"] ["p", "q"] (defScope s__check_primes) := ⟨rfl, rfl, rfl, by decide +kernel, rfl, by decide +kernel, by decide +kernel⟩
abbrev s__check_bases : Stmt := top 19
theorem sc__check_bases : FnScope ["p", "q", "bases", "index", "base"] ["p", "q", "bases"] (defScope s__check_bases) := ⟨rfl, rfl, rfl, by decide +kernel, rfl, by decide +kernel, by decide +kernel⟩
structure Glb (mg : Str → Option Value) : Prop where
  SMALLEST_P : ∃ t, mg "SMALLEST_P" = some (.int 3 t)
  LARGEST_P : ∃ t, mg "LARGEST_P" = some (.int 1000000 t)
  FEWEST_BASES : ∃ t, mg "FEWEST_BASES" = some (.int 2 t)
  MOST_BASES : ∃ t, mg "MOST_BASES" = some (.int 12 t)
section
variable {P : Program} {w : World} {K : PySem.W.Frag} {mg : Str → Option Value} {base : Heap}
def rz (p q e k : Int) : Int := e ^ (k % q).toNat % p
def prF (p q : Int) : Int → List (Int × Int) → Int
  | a, [] => a
  | a, (e, k) :: r => prF p q (a * rz p q e k % p) r
def prZ (p q : Int) (l : List (Int × Int)) : Int := prF p q 1 l
theorem prF_snoc (p q : Int) : ∀ (l : List (Int × Int)) (a e k : Int), prF p q a (l ++ [(e, k)]) = prF p q a l * rz p q e k % p
  | [], _, _, _ => rfl
  | (e', k') :: r, a, e, k => prF_snoc p q r _ e k
theorem prF_bd {p q : Int} (h : 1 < p) : ∀ (l : List (Int × Int)) (a : Int), 0 ≤ a → a < p → 0 ≤ prF p q a l ∧ prF p q a l < p
  | [], a, h0, h1 => ⟨h0, h1⟩
  | (e, k) :: r, a, h0, h1 => by
    have := emod_bd (a := a * rz p q e k) (m := p) (by omega)
    exact prF_bd h r _ this.1 this.2
/-- e is an element, worked out -/
def El (p q n : Int) : Prop := 1 ≤ n ∧ n < p ∧ n ^ q.toNat % p = 1
def spRoot : Sp := fun vs H Q _ => ∃ p q n : Int, vs = [.int p, .int q, .int n] ∧ 0 < q ∧ 0 < p ∧ p < 2147483648 ∧ ∀ b : Bool, (b = true ↔ El p q n) → Q (.bl b) H
theorem ok_is_root {f : Addr} {fd : FuncData} (F : Fun K "_is_root" "_is_root" s__is_root f fd) (C_power : C8.Cal P w K mg base 1 "power" spPower []) : FnOk P w K mg base CX0 2 f fd ["p", "q", "number"] spRoot := by
  refine F.ok sc__is_root (fun vs H Q E h => ?_) (fun cdv A outer s H vs Q E hr h => ?_)
  · obtain ⟨p, q, n, rfl, _⟩ := h
    rfl
  · obtain ⟨p, q, n, rfl, q0, p0, p1, z⟩ := h
    refine ⟨_, (pss_one (ps_ret (pe_and (pe_chain op_le op_lt pe_int (pv 2) (pv 0)) (pe_one (pe_cmpR op_eq (C8.pe_c C_power hr (by omega) rfl (pa_cons (pv 2) (pa_cons (pv 1) (pa_cons (pv 0) pa_nil)))) pe_int (nomark _)))))), ?_⟩
    walk_at "go"
    refine iteD (fun h1 => ?_) (fun h1 => ?_)
    · walk_at "go"
      refine iteD (fun h2 => ?_) (fun h2 => ?_)
      · walk_at "go"
        refine z _ ?_
        rw [decide_eq_true_eq]
        exact ⟨fun e => ⟨h1, h2, V.int.inj e⟩, fun e => congrArg V.int e.2.2⟩
      · walk_at "go"
        exact z _ ⟨fun e => (by cases e), fun e => absurd e.2.1 h2⟩
    · walk_at "go"
      exact z _ ⟨fun e => (by cases e), fun e => absurd e.1 h1⟩
/-- numbers that make a group -/
structure GOk (p q : Int) (bs : List Int) : Prop where
  p3 : 3 ≤ p
  pm : p ≤ 1000000
  pp : Pr p
  qp : Pr q
  dv : (p - 1) % q = 0
  l2 : 2 ≤ bs.length
  lm : bs.length ≤ 12
  el : ∀ b ∈ bs, b ≠ 1 ∧ El p q b
  nd : bs.Nodup
theorem GOk.q0 {p q : Int} {bs : List Int} (g : GOk p q bs) : 0 < q := by
  have := g.qp.1
  omega
theorem GOk.p0 {p q : Int} {bs : List Int} (g : GOk p q bs) : 1 < p := by
  have := g.p3
  omega
theorem GOk.ql {p q : Int} {bs : List Int} (g : GOk p q bs) : q < p := by
  have h := g.dv
  have := g.p3
  have := g.q0
  have h1 := Int.le_of_dvd (show (0 : Int) < p - 1 by omega) (Int.dvd_of_emod_eq_zero h)
  omega
def spCheckPrimes : Sp := fun vs H Q _ => ∃ p q : Int, vs = [.int p, .int q] ∧ 3 ≤ p ∧ p ≤ 1000000 ∧ Pr p ∧ Pr q ∧ (p - 1) % q = 0 ∧ Q .non H
theorem ok_check_primes {f : Addr} {fd : FuncData} (F : Fun K "_check_primes" "_check_primes" s__check_primes f fd) (G : Glb mg) (C_is_prime : C8.Cal P w K mg base 1 "is_prime" spIsPrime []) : FnOk P w K mg base CX0 2 f fd ["p", "q"] spCheckPrimes := by
  refine F.ok sc__check_primes (fun vs H Q E h => ?_) (fun cdv A outer s H vs Q E hr h => ?_)
  · obtain ⟨p, q, rfl, _⟩ := h
    rfl
  · obtain ⟨p, q, rfl, p3, pm, pp, qp, dv, z⟩ := h
    have q2 := qp.1
    have ql := Int.le_of_dvd (show (0 : Int) < p - 1 by omega) (Int.dvd_of_emod_eq_zero dv)
    refine ⟨_, (pss_cons (ps_if (PW.pt (pw_or (pt_not (pt_chain op_le op_le (pe_gint G.SMALLEST_P) (pv 0) (pe_gint G.LARGEST_P))) (pw_or1 (pt_not (pt_val (C8.pe_c C_is_prime hr (by omega) rfl (pa_cons (pv 0) pa_nil))))))) (pss_one ps_never) pss_nil)
      (pss_one (ps_if (PW.pt (pw_or (pt_cmpR op_lt (pv 1) pe_int (nomark _)) (pw_or (pt_cmpR op_ne (pe_op op_mod (pe_op op_sub (pv 0) pe_int) (pv 1)) pe_int (nomark _)) (pw_or1 (pt_not (pt_val (C8.pe_c C_is_prime hr (by omega) rfl (pa_cons (pv 1) pa_nil)))))))) (pss_one ps_never) pss_nil))), ?_⟩
    walk_at "go"
    refine iteD (fun h1 => ?_) (fun h1 => absurd p3 h1)
    walk_at "go"
    rw [decide_eq_true pm]
    walk_at "go"
    intro b hb
    walk_at "go"
    rw [hb.mpr pp]
    walk_at "go"
    rw [decide_eq_false (show ¬ q < 2 by omega)]
    walk_at "go"
    rw [show decide (V.int ((p - 1) % q) = V.int 0) = true from decide_eq_true (congrArg V.int dv)]
    walk_at "go"
    intro b hb
    walk_at "go"
    rw [hb.mpr qp]
    walk_at "go"
    exact z
def spCheckBases (K : PySem.W.Frag) : Sp := fun vs H Q _ => ∃ (p q : Int) (b : Addr) (bs : List Int), vs = [.int p, .int q, .ref b] ∧ SqL K H b (bs.map V.int) ∧ GOk p q bs ∧ ∀ H', Same H H' → Q .non H'
end


def aspDraw : ASp := fun ds P => ∃ n : Int, ds = [.pool, .int n] ∧ 0 < n ∧ n < 1073741824 ∧ ∀ v : Int, 0 ≤ v → v < n → P (.int v)
theorem draw {n : Int} {P : Dat → Prop} (h0 : 0 < n) (h1 : n < 1073741824) (h : ∀ v : Int, 0 ≤ v → v < n → P (.int v)) : aspDraw [.pool, .int n] P := ⟨n, rfl, h0, h1, h⟩
theorem sp_draw {K : PySem.W.Frag} {ca : Nat → Addr} : ∀ vs H Q E, toSp K ca aspDraw vs H Q E → spDrawP vs H Q E := fun vs H Q E ⟨po, F, ds, P, ok, r, ⟨n, e, n0, n1, hp⟩, k⟩ => by
  subst e
  cases r with
  | cons r1 r2 =>
    cases r2 with
    | cons r2 r3 =>
      cases r3
      cases r2
      cases r1 with
      | @pool p c e =>
        obtain ⟨h1, h2, h3⟩ := ok.po p c e
        refine ⟨p, c, n, rfl, h1, n0, n1, fun v H' v0 v1 hP kp => k (.int v) F H' _ (hp v v0 v1) ⟨fun _ f => f, fun _ f => .inl f, fun a o ha np => kp a o (np p c e) ha, ⟨fun a f => ?_, fun p' c' e' => ?_⟩⟩ (.int v)⟩
        · cases ea : H a with
          | none => exact absurd ea (ok.tr a f)
          | some o =>
            rw [kp a o (ok.np f p c e) ea]
            exact fun z => by cases z
        · rw [e] at e'
          cases e'
          exact ⟨hP, h2, h3⟩
def aspPower : ASp := fun ds P => ∃ a e m : Int, ds = [.int a, .int e, .int m] ∧ 0 ≤ e ∧ 0 < m ∧ m < 2147483648 ∧ P (.int (a ^ e.toNat % m))
theorem sp_power {K : PySem.W.Frag} {ca : Nat → Addr} : ∀ vs H Q E, toSp K ca aspPower vs H Q E → spPower vs H Q E := fun vs H Q E ⟨po, F, ds, P, ok, r, ⟨a, e, m, ed, h1, h2, h3, hp⟩, k⟩ => by
  subst ed
  have ev : vs = [V.int a, .int e, .int m] := RvAll.ints (ns := [a, e, m]) r
  subst ev
  exact ⟨a, e, m, rfl, h1, h2, h3, k _ F H _ hp (.refl ok) (.int _)⟩


/-! ### an __init__ over data -/
theorem mt_any {W : Wd} {H0 H1 : Hp} {F : Addr → Prop} {H : Hp} {σ : L2.St} {env : List Sl} (no : ∀ (i : Nat) (xs : List Dat), env[i]? ≠ some (.o xs)) (m : Mt W H0 F H σ env) : Mt W H1 F H σ env :=
  ⟨m.ln, fun i s e => by
    obtain ⟨ov, e1, r⟩ := m.at_ i s e
    refine ⟨ov, e1, ?_⟩
    cases s with
    | u => trivial
    | d x => exact r
    | o xs => exact absurd e (no i xs), fun i j xs ys a e1 => absurd e1 (no i xs)⟩
theorem mt_startI {W : Wd} {H1 : Hp} {F : Addr → Prop} {H : Hp} {N : List Str} {x : Addr} {vs : List V} {ds : List Dat} (r : RvAll W F H vs ds) (hl : ds.length + 1 ≤ N.length) :
    Mt W H1 F H (L2.start N (.ref x :: vs)) (.u :: (ds.map Sl.d ++ List.replicate (N.length - (ds.length + 1)) .u)) := by
  have m : Mt W H F H (L2.start (N.drop 1) vs) (ds.map Sl.d ++ List.replicate ((N.drop 1).length - ds.length) .u) := mt_start r (by rw [List.length_drop]; omega)
  have e1 : (N.drop 1).length - ds.length = N.length - (ds.length + 1) := by rw [List.length_drop]; omega
  have lv := r.length
  have e2 : L2.start N (.ref x :: vs) = some (.ref x) :: L2.start (N.drop 1) vs := by
    unfold L2.start
    rw [List.length_drop, List.length_cons]
    show some (V.ref x) :: (vs.map some ++ List.replicate (N.length - (vs.length + 1)) none) = _
    rw [show N.length - (vs.length + 1) = N.length - 1 - vs.length by omega]
  rw [e1] at m
  rw [e2]
  have no : ∀ (i : Nat) (xs : List Dat), (ds.map Sl.d ++ List.replicate (N.length - (ds.length + 1)) Sl.u)[i]? ≠ some (.o xs) := fun i xs e => by
    rcases List.mem_append.mp (List.mem_of_getElem? e) with h | h
    · obtain ⟨_, _, z⟩ := List.mem_map.mp h
      cases z
    · cases (List.mem_replicate.mp h).2
  refine ⟨congrArg (· + 1) m.ln, fun i s e => ?_, fun i j xs ys a e => ?_⟩
  · cases i with
    | zero =>
      cases e
      exact ⟨_, rfl, trivial⟩
    | succ i => exact (mt_any no m).at_ i s e
  · cases i with
    | zero => cases e
    | succ i => exact absurd e (no i xs)
theorem fn_init {K : PySem.W.Frag} {ca : Nat → Addr} {c : Nat} {asp : ASpI} {N : List Str} {vs : List V} {H : Hp} {Q : VK} {E : XK} {ts : TS} {ai : List Sl → (List Dat → Prop) → Prop} (h : toSpI K ca c asp vs H Q E) (hs : ∀ po, AIni ⟨K, ca, po⟩ c 0 ts ai)
    (hl : ∀ ds P, asp ds P → ds.length + 1 ≤ N.length) (hb : ∀ ds P, asp ds P → ai (.u :: (ds.map Sl.d ++ List.replicate (N.length - (ds.length + 1)) .u)) P) : ts { nx := fun _ H' => Q .non H', rt := Q } (L2.start N vs) H := by
  obtain ⟨po, F, H1, x, dx, ws, ds, P, rfl, rfl, hx, hdx, hne, ok, r, a, k⟩ := h
  have x1 : Ext ⟨K, ca, po⟩ F H1 F (upd H1 dx (.own x)) := Ext.lay ok hdx
  have hx1 : upd H1 dx (.own x) x = none := by rw [upd_ne (fun z => hne z.symm)]; exact hx
  have x2 : Ext ⟨K, ca, po⟩ F (upd H1 dx (.own x)) F (upd (upd H1 dx (.own x)) x (.ins (ca c) dx [])) := Ext.lay x1.ok hx1
  have x3 := x1.trans ok x2
  exact (hs po).run H1 x dx _ _ F F _ [] [] { nx := fun _ H' => Q .non H', rt := Q } P hx ok x3 (fun f => ok.tr x f hx) upd_same (Nat.le_refl _) (by rw [List.take_zero]; exact .nil) (fun m _ => rfl)
    (mt_startI (r.sub (x3.sub ok)) (hl ds P a)) rfl (hb ds P a) fun es F' H' σ' p e rv => k es F' H' p e rv
theorem sp_lenI {K : PySem.W.Frag} {ca : Nat → Addr} {c : Nat} {asp : ASpI} {n : Nat} (hn : ∀ ds P, asp ds P → ds.length = n) {vs : List V} {H : Hp} {Q : VK} {E : XK} (h : toSpI K ca c asp vs H Q E) : vs.length = n + 1 := by
  obtain ⟨po, F, H1, x, dx, ws, ds, P, rfl, rfl, hx, hdx, hne, ok, r, a, k⟩ := h
  rw [List.length_cons, r.length, hn ds P a]
/-- a call ahead of the attributes -/
def iDrop (ea : AEx) (ai : List Sl → (List Dat → Prop) → Prop) : List Sl → (List Dat → Prop) → Prop := fun env P => ea env fun _ => ai env P
theorem i_drop {W : Wd} {c k : Nat} {te : TE} {ea : AEx} {ts : TS} {ai : List Sl → (List Dat → Prop) → Prop} (he : ∀ H0, AExp W H0 te ea) (h2 : AIni W c k ts ai) : AIni W c k (tSeq (tDrop te) ts) (iDrop ea ai) :=
  ⟨fun H1 x dx σ env F1 F H fs ds De P hx ok1 b nf hX ln r no m s0 q kk => by
  refine (he H1).run σ env F H _ _ b.ok m q fun d F' H' v p x1 rv => ?_
  have hX' : H' x = some (.ins (W.ca c) dx fs) := x1.kp x _ hX fun p c e => (ok1.pne hx p c e).1
  have nf' : ¬ F' x := fun f => by
    rcases x1.dn x f with z | z
    · exact nf z
    · rw [z] at hX
      cases hX
  exact h2.run H1 x dx σ env F1 F' H' fs ds De P hx ok1 (b.trans ok1 x1) nf' hX' ln (r.sub (x1.sub b.ok)) no (m.ext b.ok x1) s0 p kk⟩

/-! ### == by an own __eq__, as a letter -/
structure EqM (P : Program) (w : World) (K : PySem.W.Frag) (mg : Str → Option Value) (base : Heap) (k : Nat) (C : Addr) (sp : Sp) : Prop where
  ex : ∃ (f : Addr) (fd : FuncData) (ps : List Str), FnOk P w K mg base CX0 k f fd ps sp ∧ PySem.W.findIn K (.ref C) "__eq__" = some (some (.ref f)) ∧ PySem.W.isFn K (.ref f) = true ∧ Binds K fd ps []
theorem op_eqM {X : Cx} {n j : Nat} {C : Addr} {sp : Sp} (c : EqM X.prog X.w X.K X.mg X.base n C sp) (hr : Room j X.A) (hk : n ≤ j) : OpR X (compareOp .Eq) (rEqO C sp E0) := by
  obtain ⟨f, fd, ps, F, hs, hf, hb⟩ := c.ex
  exact op_eqO F hs hf hb pass0 (hr.mono hk)
/-- a list or a tuple -/
def sqD (k : Bool) (xs : List Dat) : Dat := match k with
  | true => .tup xs
  | false => .lst xs
theorem kQ_sq {k : Bool} {xs : List Dat} {P : List Dat → Prop} (h : P xs) : kQ k (sqD k xs) P := by
  cases k with
  | true => exact h
  | false => exact h
theorem sQ_sq {k : Bool} {xs : List Dat} {P : List Dat → Prop} (h : P xs) : sQ (sqD k xs) P := by
  cases k with
  | true => exact h
  | false => exact h
theorem sp_exI {κ : Type} {K : PySem.W.Frag} {ca : Nat → Addr} {c : Nat} {a : κ → ASpI} {vs : List V} {H : Hp} {Q : VK} {E : XK} (h : toSpI K ca c (fun ds P => ∃ k, a k ds P) vs H Q E) : ∃ k, toSpI K ca c (a k) vs H Q E := by
  obtain ⟨po, F, H1, x, dx, ws, ds, P, e1, e2, hx, hdx, hne, ok, r, ⟨k, a⟩, z⟩ := h
  exact ⟨k, po, F, H1, x, dx, ws, ds, P, e1, e2, hx, hdx, hne, ok, r, a, z⟩
theorem kbm {X : Cx} {K : PySem.W.Frag} (hK : X.K = K) {o e : Expr} {es : List Expr} {to : TE} {t : TA} {name : Str} {apos cpos : Pos} {T id : String} {r : V → List V → Hp → VK → Prop}
    (pa : PlainAttrs T) (slot : Slot T name id) (hty : typeOf (.builtin id) = pure (.type "method_descriptor")) (hm : MtR X id r) (ho : PE X o to) (ha : PA X (e :: es) t)
    (hbase : attributeBase o name X.env (eval o X.env) = eval o X.env := by rfl)
    (hfew : ((backTo cpos (starEach (e :: es) X.env)).all (fun x => !x.1) && (backToKw cpos (keywordEach [] X.env)).all (fun x => x.1.isSome)
      && decide ((e :: es).length + ([] : List Keyword).length + (if ([] : List Keyword).isEmpty then 0 else 1) < 30)) = true := by rfl)
    (hline : (apos.endLine == cpos.line) = true := by rfl) (hs : starEach (e :: es) X.env = (false, eval e X.env) :: starEach es X.env := by rfl) (hplain : (backTo cpos (starEach es X.env)).any (·.1) = false := by rfl) :
    PE X (.Call (.Attribute o name apos) (e :: es) [] cpos) (tBM K T r to t) := by
  subst hK
  exact pe_bm pa slot hty hm ho ha hbase hfew hline hs hplain

def prT (x : Int × Int) : Dat := .tup [.int x.1, .int x.2]
/-! ### groups, over data -/
structure GT (K : PySem.W.Frag) (C : Addr) : Prop where
  cl : Cls K C
  n_p : NoAttr K C "p"
  n_q : NoAttr K C "q"
  n_bases : NoAttr K C "bases"
def aspCheckPrimes : ASp := fun ds P => ∃ p q : Int, ds = [.int p, .int q] ∧ 3 ≤ p ∧ p ≤ 1000000 ∧ Pr p ∧ Pr q ∧ (p - 1) % q = 0 ∧ P .non
theorem sp_check_primes {K : PySem.W.Frag} {ca : Nat → Addr} : ∀ vs H Q E, toSp K ca aspCheckPrimes vs H Q E → spCheckPrimes vs H Q E := fun vs H Q E ⟨po, F, ds, P, ok, r, ⟨p, q, ed, h1, h2, h3, h4, h5, hp⟩, k⟩ => by
  subst ed
  have ev : vs = [V.int p, .int q] := RvAll.ints (ns := [p, q]) r
  subst ev
  exact ⟨p, q, rfl, h1, h2, h3, h4, h5, k _ F H _ hp (.refl ok) .non⟩
def aspCheckBases : ASp := fun ds P => ∃ (p q : Int) (bs : List Int), ds = [.int p, .int q, .lst (bs.map .int)] ∧ GOk p q bs ∧ P .non
theorem sp_check_bases {K : PySem.W.Frag} {ca : Nat → Addr} : ∀ vs H Q E, toSp K ca aspCheckBases vs H Q E → spCheckBases K vs H Q E := fun vs H Q E ⟨po, F, ds, P, ok, r, ⟨p, q, bs, ed, g, hp⟩, k⟩ => by
  subst ed
  match vs, r with
  | [_, _, _], .cons r1 (.cons r2 (.cons r3 .nil)) =>
    cases r1
    cases r2
    cases r3 with
    | lst f h r =>
      have e := r.ints
      subst e
      exact ⟨p, q, _, bs, rfl, SqL.of h, g, fun H' s => k _ F H' _ hp (ext_same ok s) .non⟩
section
variable {P : Program} {w : World} {K : PySem.W.Frag} {mg : Str → Option Value} {base : Heap} {ca : Nat → Addr}
def aspGroupI : ASpI := fun ds P => ∃ (p q : Int) (bs : List Int), ds = [.int p, .int q, .lst (bs.map .int)] ∧ GOk p q bs ∧ P [.int p, .int q, .tup (bs.map .int)]
theorem ok_group_init {f : Addr} {fd : FuncData} (F : Fun K "__init__" "Group.__init__" s_Group___init__ f fd) (T0 : GT K (ca 0)) (B : Blt mg) (C__check_primes : C8.Cal P w K mg base 2 "_check_primes" (toSp K ca aspCheckPrimes) []) (C__check_bases : C8.Cal P w K mg base 3 "_check_bases" (toSp K ca aspCheckBases) []) :
    FnOk P w K mg base CX0 4 f fd ["self", "p", "q", "bases"] (toSpI K ca 0 aspGroupI) := by
  refine F.ok sc_Group___init__ (fun vs H Q E h => sp_lenI (n := 3) (fun ds P a => by obtain ⟨_, _, _, rfl, _⟩ := a; rfl) h) (fun cdv A outer s H vs Q E hr h => ⟨_, (pss_cons (ps_expr (C8.pe_c C__check_primes hr (by omega) rfl (pa_cons (pv 1) (pa_cons (pv 2) pa_nil))))
      (pss_cons (ps_expr (C8.pe_c C__check_bases hr (by omega) rfl (pa_cons (pv 1) (pa_cons (pv 2) (pa_cons (pv 3) pa_nil)))))
      (pss_cons (ps_fld (pv 0) (pv 1) rfl)
      (pss_cons (ps_fld (pv 0) (pv 2) rfl)
      (pss_cons (ps_fld (pv 0) (pe_callTy (ktupF (K := K) rfl) (by rfl) B.tuple bt_tuple (pa_cons (pv 3) pa_nil)) rfl) pss_nil))))),
    fn_init h (fun po => (i_drop (fun _ => (a_call (a_cons a_var (a_cons a_var a_nil)))) (i_drop (fun _ => (a_call (a_cons a_var (a_cons a_var (a_cons a_var a_nil))))) (i_cons T0.cl T0.n_p (k := 0) rfl (by decide) (by decide) (fun _ => a_var) (i_cons T0.cl T0.n_q (k := 1) rfl (by decide) (by decide) (fun _ => a_var) (i_cons T0.cl T0.n_bases (k := 2) rfl (by decide) (by decide) (fun _ => (a_b1 u_tupOf (a_pk a_var))) i_nil)))))) (fun ds P a => by obtain ⟨_, _, _, rfl, _⟩ := a; exact Nat.le_of_ble_eq_true rfl) ?_⟩)
  rintro ds P ⟨p, q, bs, rfl, g, hp⟩
  exact ⟨p, q, rfl, g.p3, g.pm, g.pp, g.qp, g.dv, p, q, bs, rfl, g, hp⟩
def aspRaised : ASp := fun ds P => ∃ (e k p q : Int) (bs : List Int), ds = [grpD p q bs, .int e, .int k] ∧ 0 < q ∧ 0 < p ∧ p < 2147483648 ∧ P (.int (rz p q e k))
theorem ok_raised {f : Addr} {fd : FuncData} (F : Fun K "raised" "Group.raised" s_Group_raised f fd) (T0 : GT K (ca 0)) (C_power : C8.Cal P w K mg base 1 "power" (toSp K ca aspPower) []) : FnOk P w K mg base CX0 2 f fd ["self", "element", "exponent"] (toSp K ca aspRaised) := by
  refine F.ok sc_Group_raised (fun vs H Q E h => sp_len (n := 3) (fun ds P a => by obtain ⟨_, _, _, _, _, rfl, _⟩ := a; rfl) h) (fun cdv A outer s H vs Q E hr h => ⟨_, (pss_one (ps_ret (C8.pe_c C_power hr (by omega) rfl (pa_cons (pv 1) (pa_cons (pe_op op_mod (pv 2) (kfld (K := K) rfl (pv 0))) (pa_cons (kfld (K := K) rfl (pv 0)) pa_nil)))))),
    fn_run h (fun po => (s_ret fun _ => (a_call (a_cons a_var (a_cons (a_op pst_rv rok_I a_var (a_fld T0.cl T0.n_q (c := 0) (i := 1) rfl a_var)) (a_cons (a_fld T0.cl T0.n_p (c := 0) (i := 0) rfl a_var) a_nil)))))) (fun ds P a => by obtain ⟨_, _, _, _, _, rfl, _⟩ := a; exact Nat.le_of_ble_eq_true rfl) ?_⟩)
  rintro ds P ⟨e, k, p, q, bs, rfl, q0, p0, p1, hp⟩
  have bd := emod_bd (a := k) q0
  exact ⟨rfl, ⟨propOnly (by walk_at "sd"), ⟨rfl, ⟨_, _, _, rfl, by omega, p0, p1, hp⟩⟩⟩⟩
def aspProduct : ASp := fun ds P => ∃ (p q : Int) (bs : List Int) (prs : List (Int × Int)), ds = [grpD p q bs, .lst (prs.map prT)] ∧ 0 < q ∧ 1 < p ∧ p < 2147483648 ∧ P (.int (prZ p q prs))
theorem ok_product {f : Addr} {fd : FuncData} (F : Fun K "product" "Group.product" s_Group_product f fd) (T0 : GT K (ca 0)) (M_raised : C8.Met P w K mg base 2 (ca 0) "raised" (toSp K ca aspRaised) []) : FnOk P w K mg base CX0 3 f fd ["self", "pairs"] (toSp K ca aspProduct) := by
  refine F.ok sc_Group_product (fun vs H Q E h => sp_len (n := 2) (fun ds P a => by obtain ⟨_, _, _, _, rfl, _⟩ := a; rfl) h) (fun cdv A outer s H vs Q E hr h => ⟨_, (pss_cons (ps_set (i := 2) sc_Group_product.nd rfl (.inl rfl) pe_int)
      (pss_cons (ps_for PassesOwn.never rfl (kpil (K := K) rfl (pv 1)) (kgtup (K := K) (n := 2) rfl rfl (pgs_cons (pg_name (i := 3) sc_Group_product.nd rfl (.inl rfl)) (pgs_cons (pg_name (i := 4) sc_Group_product.nd rfl (.inl rfl)) pgs_nil)))
      (pss_one (ps_set (i := 2) sc_Group_product.nd rfl (.inl rfl) (pe_op op_mod (pe_op op_mul (pv 2) (C8.pe_mt M_raised hr (by omega) (pv 0) (pa_cons (pv 3) (pa_cons (pv 4) pa_nil)))) (kfld (K := K) rfl (pv 0))))))
      (pss_one (ps_ret (pv 2))))),
    fn_run h (fun po => (s_seq (s_set fun _ => a_int)
      (s_seq (s_for (vs := [3, 4]) (fun _ => (i_list a_var)) (fun _ => (g_tup (g_cons (g_name (by decide)) (g_cons (g_name (by decide)) g_nil tot_name) tot_name)))
      (s_set fun _ => (a_op pst_rv rok_I (a_op pst_rv rok_I a_var (a_meth (by decide) a_var (a_cons a_var (a_cons a_var a_nil)))) (a_fld T0.cl T0.n_p (c := 0) (i := 0) rfl a_var))))
      (s_ret fun _ => a_var)))) (fun ds P a => by obtain ⟨_, _, _, _, rfl, _⟩ := a; exact Nat.le_of_ble_eq_true rfl) ?_⟩)
  rintro ds P ⟨p, q, bs, prs, rfl, q0, p0, p1, hp⟩
  refine forA_map (fun i env => ∃ y3 y4, env = [.d (grpD p q bs), .d (.lst (prs.map prT)), .d (.int (prF p q 1 (prs.take i))), y3, y4]) ⟨_, _, rfl⟩ ?_ ?_
  · rintro i ⟨e, k⟩ env hi ⟨y3, y4, rfl⟩ N hN
    have bd := prF_bd (q := q) p0 (prs.take i) 1 (by omega) p0
    have be := emod_bd (a := e ^ (k % q).toNat) (m := p) (by omega)
    refine ⟨rfl, e, k, p, q, bs, rfl, q0, by omega, p1, ?_⟩
    refine ⟨propOnly (by walk_at "sd"), ⟨rfl, ⟨propOnly (by walk_at "sd"), hN _ ⟨.d (.int e), .d (.int k), ?_⟩⟩⟩⟩
    rw [List.take_add_one, hi]
    show _ = [_, _, Sl.d (.int (prF p q 1 (prs.take i ++ [(e, k)]))), _, _]
    rw [prF_snoc]
    rfl
  · rintro env ⟨y3, y4, rfl⟩
    show P (.int (prF p q 1 (prs.take prs.length)))
    rw [List.take_length]
    exact hp
end

/-! ### statements, over data -/
structure ST (K : PySem.W.Frag) (C : Addr) : Prop where
  cl : Cls K C
  n_unknowns : NoAttr K C "unknowns"
  n_equations : NoAttr K C "equations"
/-- a factor: a base, the name of an unknown; an equation: an element, factors -/
abbrev Fac := Int × Str
abbrev Eqn := Int × List Fac
def fcD (x : Fac) : Dat := .tup [.int x.1, .str x.2]
def eqK (k : Bool) (x : Eqn) : Dat := .tup [.int x.1, sqD k (x.2.map fcD)]
def eqD (x : Eqn) : Dat := .tup [.int x.1, .tup (x.2.map fcD)]
def stO (us : List Str) (eqs : List Eqn) : Dat := .obj 1 [.tup (us.map .str), .tup (eqs.map eqD)]
def stL (us : List Str) (eqs : List Eqn) : Dat := .tup [.tup (us.map .str), .tup (eqs.map eqD)]
/-- the number of an unknown -/
def look : List Str → List Int → Str → Int
  | u :: us, x :: xs, v => if u = v then x else look us xs v
  | _, _, _ => 0
/-- for each equation the product of its bases to the numbers of their unknowns -/
def side (p q : Int) (us : List Str) (xs : List Int) (e : Eqn) : Int := prZ p q (e.2.map fun f => (f.1, look us xs f.2))
def sides (p q : Int) (us : List Str) (eqs : List Eqn) (xs : List Int) : List Int := eqs.map (side p q us xs)
/-- names that are different, factors with them -/
structure StOk (us : List Str) (eqs : List Eqn) : Prop where
  nd : us.Nodup
  lu : us.length ≤ 100
  le : eqs.length ≤ 1000
  lf : ∀ e ∈ eqs, e.2.length ≤ 1000
  fu : ∀ e ∈ eqs, ∀ f ∈ e.2, f.2 ∈ us
  so : ∀ u ∈ us, PyData.strOk u = true
theorem dget_look : ∀ {us : List Str} {xs : List Int} {u : Str}, u ∈ us → us.length ≤ xs.length → dgetD ((us.map (Sum.inr : Str → Key)).zip (xs.map Dat.int)) (.inr u) = some (.int (look us xs u))
  | [], _, _, h, _ => by cases h
  | _ :: _, [], _, _, h => by cases h
  | v :: us, x :: xs, u, h, hl => by
    by_cases e : v = u
    · subst e
      simp [dgetD, List.find?_cons, look]
    · have h' := (List.mem_cons.mp h).resolve_left (fun z => e z.symm)
      have ih := dget_look h' (xs := xs) (by simpa using hl)
      have e1 : dgetD (((v :: us).map (Sum.inr : Str → Key)).zip ((x :: xs).map Dat.int)) (.inr u) = dgetD ((us.map (Sum.inr : Str → Key)).zip (xs.map Dat.int)) (.inr u) := by
        have ne : ¬ ((Sum.inr v : Key) = Sum.inr u) := fun z => e (Sum.inr.inj z)
        simp [dgetD, List.find?_cons, ne]
      rw [e1, ih]
      simp [look, e]
section
variable {P : Program} {w : World} {K : PySem.W.Frag} {mg : Str → Option Value} {base : Heap} {ca : Nat → Addr}
def aspKeptK (k : Bool) : ASp := fun ds P => ∃ x : Eqn, ds = [eqK k x] ∧ x.2.length ≤ 1000 ∧ P (eqD x)
def aspKept : ASp := fun ds P => ∃ k, aspKeptK k ds P
def aspStI3 (k1 k2 k3 : Bool) : ASpI := fun ds P => ∃ (us : List Str) (eqs : List Eqn), ds = [sqD k1 (us.map .str), sqD k2 (eqs.map (eqK k3))] ∧ eqs.length ≤ 1000 ∧ (∀ e ∈ eqs, e.2.length ≤ 1000) ∧ P [.tup (us.map .str), .tup (eqs.map eqD)]
def aspStI : ASpI := fun ds P => ∃ k1, ∃ k2, ∃ k3, aspStI3 k1 k2 k3 ds P
end

theorem zipD_map {α β : Type} (f : α → Dat) (g : β → Dat) : ∀ (xs : List α) (ys : List β), zipD (xs.map f) (ys.map g) = (xs.zip ys).map fun x => .tup [f x.1, g x.2]
  | [], _ => rfl
  | _ :: _, [] => rfl
  | x :: xs, y :: ys => congrArg (_ :: ·) (zipD_map f g xs ys)
theorem zipWith_zip {α β γ : Type} (f : α → β → γ) : ∀ (xs : List α) (ys : List β), List.zipWith f xs ys = (xs.zip ys).map fun x => f x.1 x.2
  | [], _ => rfl
  | _ :: _, [] => rfl
  | x :: xs, y :: ys => congrArg (_ :: ·) (zipWith_zip f xs ys)
section
variable {P : Program} {w : World} {K : PySem.W.Frag} {mg : Str → Option Value} {base : Heap} {ca : Nat → Addr}
theorem side_bd {p q : Int} (h : 1 < p) (us : List Str) (xs : List Int) (e : Eqn) : 0 ≤ side p q us xs e ∧ side p q us xs e < p := prF_bd h _ _ (by omega) h
theorem sides_snoc (p q : Int) (us : List Str) (eqs : List Eqn) (e : Eqn) (xs : List Int) : sides p q us (eqs ++ [e]) xs = sides p q us eqs xs ++ [side p q us xs e] := List.map_append
theorem take_snoc {α : Type} {xs : List α} {i : Nat} {x : α} (h : xs[i]? = some x) : xs.take (i + 1) = xs.take i ++ [x] := by
  rw [List.take_add_one, h]
  rfl
def aspProductsK (k : Bool) : ASp := fun ds P => ∃ (p q : Int) (bs : List Int) (us : List Str) (eqs : List Eqn) (xs : List Int), ds = [grpD p q bs, stO us eqs, sqD k (xs.map .int)] ∧ 0 < q ∧ 1 < p ∧ p < 2147483648 ∧ StOk us eqs ∧ us.length ≤ xs.length ∧ P (.lst ((sides p q us eqs xs).map .int))
def aspProducts : ASp := fun ds P => ∃ k, aspProductsK k ds P
def aspReplyK (k1 k2 : Bool) : ASp := fun ds P => ∃ (p q : Int) (bs vs ts : List Int) (c : Int), ds = [grpD p q bs, sqD k2 (vs.map .int), sqD k1 (ts.map .int), .int c] ∧ 0 < q ∧ q < 2147483648 ∧ vs.length ≤ 1000 ∧ -2147483648 < c ∧ c < 2147483648 ∧ (∀ v ∈ vs, -4294967296 < v ∧ v < 4294967296) ∧ P (.tup ((List.zipWith (fun t v => (t + c * v) % q) ts vs).map .int))
def aspReply : ASp := fun ds P => ∃ k1, ∃ k2, aspReplyK k1 k2 ds P
/-- the numbers of the first move that replies fit to -/
def firsts (p q : Int) (us : List Str) (eqs : List Eqn) (c : Int) (rs : List Int) : List Int := eqs.map fun e => prZ p q [(side p q us rs e, 1), (e.1, -c)]
theorem firsts_snoc (p q : Int) (us : List Str) (eqs : List Eqn) (e : Eqn) (c : Int) (rs : List Int) : firsts p q us (eqs ++ [e]) c rs = firsts p q us eqs c rs ++ [prZ p q [(side p q us rs e, 1), (e.1, -c)]] := List.map_append
theorem zip_map_r {α β : Type} (f : α → β) : ∀ xs : List α, xs.zip (xs.map f) = xs.map fun x => (x, f x)
  | [] => rfl
  | x :: xs => congrArg (_ :: ·) (zip_map_r f xs)
def aspSimK (k : Bool) : ASp := fun ds P => ∃ (p q : Int) (bs : List Int) (us : List Str) (eqs : List Eqn) (c : Int) (rs : List Int), ds = [grpD p q bs, stO us eqs, .int c, sqD k (rs.map .int)] ∧ 0 < q ∧ 1 < p ∧ p < 2147483648 ∧ StOk us eqs ∧ us.length ≤ rs.length ∧ P (.tup ((firsts p q us eqs c rs).map .int))
def aspSim : ASp := fun ds P => ∃ k, aspSimK k ds P
end

/-! ### readings over data, worked out -/
section
variable {P : Dat → Prop} {p q : Prop}
theorem two_t : two true p q = p := rfl
theorem two_f : two false p q = q := rfl
theorem bQ_bl {b : Bool} {P : Bool → Prop} : bQ (.bl b) P = P b := rfl
theorem dQ_d {x : Dat} : dQ (.d x) P = P x := rfl
theorem dQ2_d {x : Dat} : dQ2 (.d x) P = P x := rfl
theorem dQ2_o {xs : List Dat} : dQ2 (.o xs) P = P (.lst xs) := rfl
theorem oQ_some {α : Type} {x : α} {P : α → Prop} : oQ (some x) P = P x := rfl
theorem oQ2_o {xs : List Dat} {P : List Dat → Prop} : oQ2 (.o xs) P = P xs := rfl
theorem lQ_lst {xs : List Dat} {P : List Dat → Prop} : lQ (.lst xs) P = P xs := rfl
theorem tQ_tup {xs : List Dat} {P : List Dat → Prop} : tQ (.tup xs) P = P xs := rfl
theorem sQ_lst {xs : List Dat} {P : List Dat → Prop} : sQ (.lst xs) P = P xs := rfl
theorem sQ_tup {xs : List Dat} {P : List Dat → Prop} : sQ (.tup xs) P = P xs := rfl
theorem kQ_t {xs : List Dat} {P : List Dat → Prop} : kQ true (.tup xs) P = P xs := rfl
theorem kQ_l {xs : List Dat} {P : List Dat → Prop} : kQ false (.lst xs) P = P xs := rfl
theorem kI_i {C : Int → Int → Prop} {g : Int → Int → Dat} {i j : Int} : kI C g (.int i) (.int j) P = (C i j ∧ P (g i j)) := rfl
theorem kI0_i {g : Int → Int → Dat} {i j : Int} : kI0 g (.int i) (.int j) P = P (g i j) := rfl
theorem kEq_i {n : Bool} {i j : Int} : kEq n (.int i) (.int j) P = P (.bl (if n then !decide (i = j) else decide (i = j))) := rfl
theorem kEq_s {n : Bool} {i j : Str} : kEq n (.str i) (.str j) P = P (.bl (if n then !decide (i = j) else decide (i = j))) := rfl
theorem kEq_b {n : Bool} {i j : Bool} : kEq n (.bl i) (.bl j) P = P (.bl (if n then !decide (i = j) else decide (i = j))) := rfl
theorem kFld_o {c i : Nat} {ds : List Dat} : kFld c i (.obj c ds) P = oQ ds[i]? P := propext ⟨fun h => h.2, fun h => ⟨rfl, h⟩⟩
theorem kIx_l {xs : List Dat} {i : Int} : kIx (.lst xs) (.int i) P = oQ (atI xs i) P := rfl
theorem kIx_t {xs : List Dat} {i : Int} : kIx (.tup xs) (.int i) P = oQ (atI xs i) P := rfl
theorem atD {α : Type} {xs : List α} {z : Int} {j : Nat} {v : α} (e : z = (j : Int)) (h : xs[j]? = some v) : atI xs z = some v := by
  have lt := (List.getElem?_eq_some_iff.mp h).1
  unfold atI ixN
  rw [if_pos (by omega), if_pos (by omega)]
  show xs[z.toNat]? = _
  rw [e, Int.toNat_natCast]
  exact h
theorem atI_0 {α : Type} {x : α} {xs : List α} : atI (x :: xs) 0 = some x := by
  show atI _ ((0 : Nat) : Int) = _
  exact atD rfl rfl
theorem atI_1 {α : Type} {x y : α} {xs : List α} : atI (x :: y :: xs) 1 = some y := by
  show atI _ ((1 : Nat) : Int) = _
  exact atD rfl rfl
theorem atI_2 {α : Type} {x y z : α} {xs : List α} : atI (x :: y :: z :: xs) 2 = some z := by
  show atI _ ((2 : Nat) : Int) = _
  exact atD rfl rfl
theorem atI_3 {α : Type} {x y z t : α} {xs : List α} : atI (x :: y :: z :: t :: xs) 3 = some t := by
  show atI _ ((3 : Nat) : Int) = _
  exact atD rfl rfl
theorem kSum_i {ns : List Int} (h : P (.int ns.sum)) : kSum (.lst (ns.map .int)) P := ⟨ns, rfl, h⟩
theorem kMax2_i {i j : Int} : kMax2 (.int i) (.int j) P = P (.int (if j > i then j else i)) := rfl
theorem kCatT_t {xs ys : List Dat} : kCatT (.tup xs) (.tup ys) P = (xs.length + ys.length ≤ 100000 ∧ P (.tup (xs ++ ys))) := rfl
theorem kCatL_l {xs ys : List Dat} {P : List Dat → Prop} : kCatL (.lst xs) (.lst ys) P = (xs.length + ys.length ≤ 100000 ∧ P (xs ++ ys)) := rfl
theorem kCatS_s {x y : Str} : kCatS (.str x) (.str y) P = (x.length + y.length ≤ 100000 ∧ P (.str (x ++ y))) := rfl
theorem kInt_i {i : Int} : kInt (.int i) P = P (.int i) := rfl
theorem kNeg_i {i : Int} : kNeg (.int i) P = P (.int (-i)) := rfl
theorem kStr_i {i : Int} : kStr (.int i) P = (i.natAbs < 1000000 ∧ P (.str (toString i))) := rfl
theorem kIsO_o {c : Nat} {ds : List Dat} : kIsO c (.obj c ds) P = P (.bl true) := propext ⟨fun h => h.2, fun h => ⟨rfl, h⟩⟩
theorem aTest_eq {ea : AEx} {env : List Sl} {P : Bool → Prop} : aTest ea env P = ea env fun x => bQ x P := by
  unfold aTest
  congr
  funext x
  cases x <;> rfl
theorem aMeth_eq {c : Nat} {asp : ASp} {ea : AEx} {aa : AFr} {env : List Sl} : aMeth c asp ea aa env P = ea env fun x => (match x with | .obj c' _ => c' = c | _ => False) ∧ aa env fun ds => asp (x :: ds) P := rfl
theorem gCons_c {g : ATg} {ag : List Dat → List Sl → (List Sl → Prop) → Prop} {d : Dat} {ds : List Dat} {env : List Sl} {P : List Sl → Prop} : gConsA g ag (d :: ds) env P = g d env fun env2 => ag ds env2 P := rfl
theorem gNil_n {env : List Sl} {P : List Sl → Prop} : gNilA [] env P = P env := rfl
theorem sPar_eq {i j : Nat} {aa : AFr} {D : AEnds} {env : List Sl} : sPar i j aa D env = aa env fun ds => (match ds with | [x, y] => D.nx ((env.set i (.d x)).set j (.d y)) | _ => False) := rfl
theorem iRan_1 {j : Int} {aa : AFr} {env : List Sl} {P : List Dat → Prop} : iRan aa env P = aa env fun ds => match ds with
  | [.int j] => j < 1000000000000 ∧ -1000000000000 < j ∧ P ((List.range j.toNat).map fun (i : Nat) => Dat.int (0 + (i : Int)))
  | [.int i, .int j] => (j < 1000000000000 ∧ -1000000000000 < j ∧ i < 1000000000000 ∧ -1000000000000 < i) ∧ P ((List.range (j - i).toNat).map fun (n : Nat) => Dat.int (i + (n : Int)))
  | _ => False := rfl
theorem iZip_2 {k1 k2 : Bool} {aa : AFr} {env : List Sl} {P : List Dat → Prop} {x y : Dat} (h : kQ k1 x fun xs => kQ k2 y fun ys => P (zipD xs ys)) : (match [x, y] with | [x, y] => kQ k1 x fun xs => kQ k2 y fun ys => P (zipD xs ys) | _ => False) := h
theorem dAt_0 {s : Sl} {r : List Sl} : dAt (s :: r) 0 = s := rfl
theorem dAt_s {s : Sl} {r : List Sl} {i : Nat} : dAt (s :: r) (i + 1) = dAt r i := rfl
end
section
variable {T : String} {P : Dat → Prop}
theorem kIsT_non : kIsT T .non P = P (.bl (decide ("NoneType" = T) || (decide ("NoneType" = "bool") && decide (T = "int")))) := rfl
theorem kIsT_bl {b : Bool} : kIsT T (.bl b) P = P (.bl (decide ("bool" = T) || (decide ("bool" = "bool") && decide (T = "int")))) := rfl
theorem kIsT_int {b : Int} : kIsT T (.int b) P = P (.bl (decide ("int" = T) || (decide ("int" = "bool") && decide (T = "int")))) := rfl
theorem kIsT_str {b : Str} : kIsT T (.str b) P = P (.bl (decide ("str" = T) || (decide ("str" = "bool") && decide (T = "int")))) := rfl
theorem kIsT_lst {b : List Dat} : kIsT T (.lst b) P = P (.bl (decide ("list" = T) || (decide ("list" = "bool") && decide (T = "int")))) := rfl
theorem kIsT_tup {b : List Dat} : kIsT T (.tup b) P = P (.bl (decide ("tuple" = T) || (decide ("tuple" = "bool") && decide (T = "int")))) := rfl
theorem kIsN_non {n : Bool} : kIsN n .non .non P = P (.bl (!n)) := rfl
theorem kIsN_bl {n b : Bool} : kIsN n (.bl b) .non P = P (.bl n) := rfl
theorem kIsN_int {n : Bool} {b : Int} : kIsN n (.int b) .non P = P (.bl n) := rfl
theorem kIsN_str {n : Bool} {b : Str} : kIsN n (.str b) .non P = P (.bl n) := rfl
theorem kIsN_lst {n : Bool} {b : List Dat} : kIsN n (.lst b) .non P = P (.bl n) := rfl
theorem kIsN_tup {n : Bool} {b : List Dat} : kIsN n (.tup b) .non P = P (.bl n) := rfl
theorem kIsN_obj {n : Bool} {c : Nat} {b : List Dat} : kIsN n (.obj c b) .non P = P (.bl n) := rfl
theorem kEq_nn {n : Bool} : kEq n .non .non P = P (.bl (!n)) := rfl
end
theorem lcA_filL {α : Type} {f : α → Dat} {xs : List α} {el : Dat → (Option Dat → Prop) → Prop} {P : List Dat → Prop} (g : α → Dat) (c : α → Bool) (h : ∀ x ∈ xs, ∀ Q : Option Dat → Prop, (c x = true → Q (some (g x))) → (c x = false → Q none) → el (f x) Q) (k : P ((xs.filter c).map g)) : lcA el P (xs.map f) [] := by
  have gen : ∀ (ys : List α) (acc : List Dat), (∀ x ∈ ys, ∀ Q : Option Dat → Prop, (c x = true → Q (some (g x))) → (c x = false → Q none) → el (f x) Q) → P (acc ++ (ys.filter c).map g) → lcA el P (ys.map f) acc := by
    intro ys
    induction ys with
    | nil =>
      intro acc _ k
      rw [List.filter_nil, List.map_nil, List.append_nil] at k
      exact k
    | cons y ys ih =>
      intro acc h k
      refine h y List.mem_cons_self _ (fun e => ?_) (fun e => ?_)
      · show lcA el P (ys.map f) (acc ++ [g y])
        refine ih _ (fun x hx => h x (List.mem_cons_of_mem _ hx)) ?_
        rw [List.filter_cons, e, if_pos rfl, List.map_cons] at k
        rw [List.append_assoc]
        exact k
      · show lcA el P (ys.map f) acc
        refine ih _ (fun x hx => h x (List.mem_cons_of_mem _ hx)) ?_
        rw [List.filter_cons, e, if_neg Bool.false_ne_true] at k
        exact k
  exact gen xs [] h k
theorem mem_ints {x : Int} {xs : List Int} : Dat.int x ∈ xs.map Dat.int ↔ x ∈ xs := ⟨fun h => by
  obtain ⟨y, hy, e⟩ := List.mem_map.mp h
  cases e
  exact hy, fun h => List.mem_map.mpr ⟨x, h, rfl⟩⟩
theorem flat_all (xs : List Int) : (xs.map Dat.int).all flatD = true := List.all_eq_true.mpr fun d hd => by
  obtain ⟨y, hy, e⟩ := List.mem_map.mp hd
  subst e
  rfl
theorem kIn_i {n : Bool} {x : Int} {xs : List Int} {P : Dat → Prop} (h : P (.bl (if n then !decide (x ∈ xs) else decide (x ∈ xs)))) : kIn n (.int x) (.lst (xs.map .int)) P := ⟨rfl, flat_all xs, fun b hb => by
  have e : b = decide (x ∈ xs) := by
    rw [mem_ints] at hb
    by_cases hx : x ∈ xs
    · rw [decide_eq_true hx]
      exact hb.mpr hx
    · rw [decide_eq_false hx]
      exact Bool.eq_false_iff.mpr fun z => hx (hb.mp z)
  subst e
  exact h⟩
theorem ix_any {α : Type} {f : α → Dat} {xs : List α} {v : Int} {P : Dat → Prop} (h0 : 0 ≤ v) (h1 : v < xs.length) (h : ∀ x ∈ xs, P (f x)) : kIx (.lst (xs.map f)) (.int v) P := by
  have lt : v.toNat < xs.length := by omega
  rw [kIx_l, atD (j := v.toNat) (v := f xs[v.toNat]) (by omega) (by rw [List.getElem?_map, List.getElem?_eq_getElem lt]; rfl)]
  exact h _ (List.getElem_mem lt)
theorem ix_anyT {α : Type} {f : α → Dat} {xs : List α} {v : Int} {P : Dat → Prop} (h0 : 0 ≤ v) (h1 : v < xs.length) (h : ∀ x ∈ xs, P (f x)) : kIx (.tup (xs.map f)) (.int v) P := ix_any (f := f) h0 h1 h
theorem ix_at {α : Type} {f : α → Dat} {xs : List α} {v : Int} {j : Nat} {x : α} {P : Dat → Prop} (e : v = (j : Int)) (h1 : xs[j]? = some x) (h : P (f x)) : kIx (.lst (xs.map f)) (.int v) P := by
  rw [kIx_l, atD (j := j) (v := f x) e (by rw [List.getElem?_map, h1]; rfl)]
  exact h
theorem ix_atT {α : Type} {f : α → Dat} {xs : List α} {v : Int} {j : Nat} {x : α} {P : Dat → Prop} (e : v = (j : Int)) (h1 : xs[j]? = some x) (h : P (f x)) : kIx (.tup (xs.map f)) (.int v) P := ix_at (f := f) e h1 h
theorem ix_two {x y : Dat} {v : Int} {P : Dat → Prop} (h0 : 0 ≤ v) (h1 : v < 2) (hx : P x) (hy : P y) : kIx (.tup [x, y]) (.int v) P := by
  by_cases h : v = 0
  · subst h
    rw [kIx_t, atI_0]
    exact hx
  · have : v = 1 := by omega
    subst this
    rw [kIx_t, atI_1]
    exact hy
theorem oa_at {α : Type} {f : α → Dat} {xs : List α} {v : Int} {j : Nat} {x : α} {P : Dat → Prop} (e : v = (j : Int)) (h1 : xs[j]? = some x) (h : P (f x)) : oQ (atI (xs.map f) v) P := ix_at (f := f) e h1 h
theorem oa_any {α : Type} {f : α → Dat} {xs : List α} {v : Int} {P : Dat → Prop} (h0 : 0 ≤ v) (h1 : v < xs.length) (h : ∀ x ∈ xs, P (f x)) : oQ (atI (xs.map f) v) P := ix_any (f := f) h0 h1 h
/-! statements, a step each; not by rfl, so that the kernel need not find the way -/
section
variable {a b : ASt} {D : AEnds} {env : List Sl}
theorem sNext_e : sNext D env = D.nx env := Eq.trans rfl rfl
theorem sSeq_e : sSeq a b D env = a { nx := b D, rt := D.rt, bk := D.bk, ct := D.ct } env := Eq.trans rfl rfl
theorem sIf_e {c : ATs} : sIf c a b D env = c env fun t => two t (a D env) (b D env) := Eq.trans rfl rfl
theorem sAsg_e {ea : AEx} {g : ATg} : sAsg ea g D env = ea env fun d => g d env D.nx := Eq.trans rfl rfl
theorem sSetO_e {i : Nat} {af : AFr} : sSetO i af D env = af env fun ds => D.nx (env.set i (.o ds)) := Eq.trans rfl rfl
theorem sRet_e {ea : AEx} : sRet ea D env = ea env D.rt := Eq.trans rfl rfl
theorem sRetN_e : sRetN D env = D.rt .non := Eq.trans rfl rfl
theorem sDrop_e {ea : AEx} : sDrop ea D env = ea env fun _ => D.nx env := Eq.trans rfl rfl
theorem sFz_e {i : Nat} : sFz i a D env = oQ2 (dAt env i) fun xs => a D (env.set i (.d (.lst xs))) := Eq.trans rfl rfl
theorem sApp_e {i : Nat} {ea : AEx} : sApp i ea D env = oQ2 (dAt env i) fun xs => xs.length < 100000 ∧ ea env fun d => D.nx (env.set i (.o (xs ++ [d]))) := Eq.trans rfl rfl
theorem sAug_e {i : Nat} {ea : AEx} {f : Dat → Dat → (Dat → Prop) → Prop} : sAug i ea f D env = dQ (dAt env i) fun x => ea env fun y => f x y fun z => D.nx (env.set i (.d z)) := Eq.trans rfl rfl
theorem sFor_e {ai : AFr} {g : ATg} : sFor ai g b D env = ai env fun ds => forA g b D ds env := Eq.trans rfl rfl
end
theorem cut_nat {xs : List Dat} {a b : Nat} (h : a ≤ b) : cutD xs (some (a : Int)) (some (b : Int)) = (xs.drop a).take (b - a) := by
  unfold cutD
  rw [show HT.sIx xs.length 0 (some (a : Int)) = min a xs.length from HT.sIx_nat _ _ _, show HT.sIx xs.length xs.length (some (b : Int)) = min b xs.length from HT.sIx_nat _ _ _]
  by_cases ha : a ≤ xs.length
  · rw [Nat.min_eq_left ha]
    by_cases hb : b ≤ xs.length
    · rw [Nat.min_eq_left hb]
    · rw [Nat.min_eq_right (by omega), List.take_of_length_le (by rw [List.length_drop]; omega), List.take_of_length_le (by rw [List.length_drop]; omega)]
  · rw [Nat.min_eq_right (by omega), Nat.min_eq_right (by omega), List.drop_eq_nil_of_le (by omega), List.drop_eq_nil_of_le (by omega)]
    simp
theorem cut_to {xs : List Dat} {b : Nat} : cutD xs none (some (b : Int)) = xs.take b := by
  have h := cut_nat (xs := xs) (a := 0) (b := b) (Nat.zero_le b)
  rw [List.drop_zero, Nat.sub_zero] at h
  rw [← h]
  unfold cutD
  rw [show HT.sIx xs.length 0 (some ((0 : Nat) : Int)) = 0 by rw [show HT.sIx xs.length 0 (some ((0 : Nat) : Int)) = min 0 xs.length from HT.sIx_nat _ _ _]; exact Nat.zero_min _]
  rfl
theorem cut_from {xs : List Dat} {a : Nat} : cutD xs (some (a : Int)) none = xs.drop a := by
  unfold cutD
  rw [show HT.sIx xs.length 0 (some (a : Int)) = min a xs.length from HT.sIx_nat _ _ _, show HT.sIx xs.length xs.length none = xs.length from rfl]
  by_cases ha : a ≤ xs.length
  · rw [Nat.min_eq_left ha, List.take_of_length_le (by rw [List.length_drop]; omega)]
  · rw [Nat.min_eq_right (by omega), List.drop_eq_nil_of_le (by omega), List.drop_eq_nil_of_le (by omega)]
    simp
/-- what comes after a statement, by a name: nothing looks into it -/
theorem seqG {a b : ASt} {D : AEnds} {env : List Sl} (h : ∀ N : List Sl → Prop, N = b D → a { D with nx := N } env) : sSeq a b D env := h _ rfl

local macro_rules | `(tactic| walk_at "dd") => `(tactic| simp only [elA, sSeq, sNext, sIf, sAsg, sSetO, sRet, sRetN, sDrop, sPar, sFz, sApp, sAug, sFor, oQ2_o, dQ_d, dQ2_d, dQ2_o, dAt_0, dAt_s, aVar, aPeek, aC, aFz, a2, a2F, a1, a1F, aCons, aNil, aTup, aTest_eq, aNot, aAnd, aOr, bQ_bl, aAndV, aOrV, aNotV, aIf, aChain, kI_i, kI0_i, kEq_i, kEq_s, kEq_b, kFld_o, oQ_some, aCall, aMeth, aMake, iSeq, lQ_lst, tQ_tup, sQ_lst, sQ_tup, iRan, gA, gTu, gNil_n, gCons_c, aLc, wipeA, kLen, kTupOf, kQ_t, kQ_l, iZipA, iEnA, aSlF, aSlT, aoN, aoS, aRevT, aRevL, kMax2_i, kCatS_s, kCatT_t, kCatL_l, kInt_i, kNeg_i, true_and, aYes, iCons, iNil, iDrop, kIsO_o, two_t, two_f, kIx_l, kIx_t, atI_0, atI_1, atI_2, atI_3, Bool.false_eq_true, if_false, if_true, kStr_i, kIsT_non, kIsT_bl, kIsT_int, kIsT_str, kIsT_lst, kIsT_tup, kIsN_non, kIsN_bl, kIsN_int, kIsN_str, kIsN_lst, kIsN_tup, kIsN_obj, kEq_nn, String.reduceEq, decide_true, decide_false, Bool.or_false, Bool.false_or, Bool.true_or, Bool.or_true, Bool.and_true, Bool.true_and, Bool.and_false, Bool.false_and, Bool.not_true, Bool.not_false, reduceCtorEq,
  List.map_cons, List.map_nil, List.cons_append, List.nil_append, List.length_cons, List.length_nil, Nat.reduceAdd, Nat.reduceSub, List.replicate_succ, List.replicate_zero, List.set_cons_zero, List.set_cons_succ, List.getElem?_cons_zero, List.getElem?_cons_succ])
local macro_rules | `(tactic| walk_at "dx") => `(tactic| simp only [elA, sNext, sAsg, sSetO, sRet, sRetN, sDrop, sPar, sFz, sApp, sAug, sFor, oQ2_o, dQ_d, dQ2_d, dQ2_o, dAt_0, dAt_s, aVar, aPeek, aC, aFz, a2, a2F, a1, a1F, aCons, aNil, aTup, aTest_eq, aNot, aAnd, aOr, bQ_bl, aAndV, aOrV, aNotV, aIf, aChain, kI_i, kI0_i, kEq_i, kEq_s, kEq_b, kFld_o, oQ_some, aCall, aMeth, aMake, iSeq, lQ_lst, tQ_tup, sQ_lst, sQ_tup, iRan, gA, gTu, gNil_n, gCons_c, aLc, wipeA, kLen, kTupOf, kQ_t, kQ_l, iZipA, iEnA, aSlF, aSlT, aoN, aoS, aRevT, aRevL, kMax2_i, kCatS_s, kCatT_t, kCatL_l, kInt_i, kNeg_i, true_and, aYes, iCons, iNil, iDrop, kIsO_o, two_t, two_f, kIx_l, kIx_t, atI_0, atI_1, atI_2, atI_3, Bool.false_eq_true, if_false, if_true, kStr_i, kIsT_non, kIsT_bl, kIsT_int, kIsT_str, kIsT_lst, kIsT_tup, kIsN_non, kIsN_bl, kIsN_int, kIsN_str, kIsN_lst, kIsN_tup, kIsN_obj, kEq_nn, String.reduceEq, decide_true, decide_false, Bool.or_false, Bool.false_or, Bool.true_or, Bool.or_true, Bool.and_true, Bool.true_and, Bool.and_false, Bool.false_and, Bool.not_true, Bool.not_false, reduceCtorEq,
  List.map_cons, List.map_nil, List.cons_append, List.nil_append, List.length_cons, List.length_nil, Nat.reduceAdd, Nat.reduceSub, List.replicate_succ, List.replicate_zero, List.set_cons_zero, List.set_cons_succ, List.getElem?_cons_zero, List.getElem?_cons_succ])
local macro_rules | `(tactic| walk_at "dk") => `(tactic| simp -implicitDefEqProofs only [elA, sSeq, sNext, sIf, sAsg, sSetO, sRet, sRetN, sDrop, sPar, sFz, sApp, sAug, sFor, oQ2_o, dQ_d, dQ2_d, dQ2_o, dAt_0, dAt_s, aVar, aPeek, aC, aFz, a2, a2F, a1, a1F, aCons, aNil, aTup, aTest_eq, aNot, aAnd, aOr, bQ_bl, aAndV, aOrV, aNotV, aIf, aChain, kI_i, kI0_i, kEq_i, kEq_s, kEq_b, kFld_o, oQ_some, aCall, aMeth, aMake, iSeq, lQ_lst, tQ_tup, sQ_lst, sQ_tup, iRan, gA, gTu, gNil_n, gCons_c, aLc, wipeA, kLen, kTupOf, kQ_t, kQ_l, iZipA, iEnA, aSlF, aSlT, aoN, aoS, aRevT, aRevL, kMax2_i, kCatS_s, kCatT_t, kCatL_l, kInt_i, kNeg_i, true_and, aYes, iCons, iNil, iDrop, kIsO_o, two_t, two_f, kIx_l, kIx_t, atI_0, atI_1, atI_2, atI_3, Bool.false_eq_true, if_false, if_true, kStr_i, kIsT_non, kIsT_bl, kIsT_int, kIsT_str, kIsT_lst, kIsT_tup, kIsN_non, kIsN_bl, kIsN_int, kIsN_str, kIsN_lst, kIsN_tup, kIsN_obj, kEq_nn, String.reduceEq, decide_true, decide_false, Bool.or_false, Bool.false_or, Bool.true_or, Bool.or_true, Bool.and_true, Bool.true_and, Bool.and_false, Bool.false_and, Bool.not_true, Bool.not_false, reduceCtorEq,
  List.map_cons, List.map_nil, List.cons_append, List.nil_append, List.length_cons, List.length_nil, Nat.reduceAdd, Nat.reduceSub, List.replicate_succ, List.replicate_zero, List.set_cons_zero, List.set_cons_succ, List.getElem?_cons_zero, List.getElem?_cons_succ])
local macro_rules | `(tactic| walk_at "dy") => `(tactic| simp -implicitDefEqProofs only [elA, sNext, sAsg, sSetO, sRet, sRetN, sDrop, sPar, sFz, sApp, sAug, sFor, oQ2_o, dQ_d, dQ2_d, dQ2_o, dAt_0, dAt_s, aVar, aPeek, aC, aFz, a2, a2F, a1, a1F, aCons, aNil, aTup, aTest_eq, aNot, aAnd, aOr, bQ_bl, aAndV, aOrV, aNotV, aIf, aChain, kI_i, kI0_i, kEq_i, kEq_s, kEq_b, kFld_o, oQ_some, aCall, aMeth, aMake, iSeq, lQ_lst, tQ_tup, sQ_lst, sQ_tup, iRan, gA, gTu, gNil_n, gCons_c, aLc, wipeA, kLen, kTupOf, kQ_t, kQ_l, iZipA, iEnA, aSlF, aSlT, aoN, aoS, aRevT, aRevL, kMax2_i, kCatS_s, kCatT_t, kCatL_l, kInt_i, kNeg_i, true_and, aYes, iCons, iNil, iDrop, kIsO_o, two_t, two_f, kIx_l, kIx_t, atI_0, atI_1, atI_2, atI_3, Bool.false_eq_true, if_false, if_true, kStr_i, kIsT_non, kIsT_bl, kIsT_int, kIsT_str, kIsT_lst, kIsT_tup, kIsN_non, kIsN_bl, kIsN_int, kIsN_str, kIsN_lst, kIsN_tup, kIsN_obj, kEq_nn, String.reduceEq, decide_true, decide_false, Bool.or_false, Bool.false_or, Bool.true_or, Bool.or_true, Bool.and_true, Bool.true_and, Bool.and_false, Bool.false_and, Bool.not_true, Bool.not_false, reduceCtorEq,
  List.map_cons, List.map_nil, List.cons_append, List.nil_append, List.length_cons, List.length_nil, Nat.reduceAdd, Nat.reduceSub, List.replicate_succ, List.replicate_zero, List.set_cons_zero, List.set_cons_succ, List.getElem?_cons_zero, List.getElem?_cons_succ])

theorem okE_str {x : Str} (h : PyData.strOk x = true) (n : Nat) : okE n (.str x) := ⟨h, Nat.zero_le n⟩
theorem okE_maps {α : Type} {f : α → Dat} {n : Nat} {xs : List α} (h : ∀ x ∈ xs, okE n (f x)) : ∀ d ∈ xs.map f, okE n d := fun d hd => by
  obtain ⟨x, hx, rfl⟩ := List.mem_map.mp hd
  exact h x hx
theorem okE_two {a b : Dat} {n : Nat} (h1 : okE n a) (h2 : okE n b) : ∀ d ∈ [a, b], okE n d := fun d hd => by
  rcases List.mem_cons.mp hd with rfl | hd
  · exact h1
  · rw [List.mem_singleton.mp hd]
    exact h2
theorem fcD_inj {x y : Fac} (h : fcD x = fcD y) : x = y := by
  obtain ⟨a, b⟩ := x
  obtain ⟨c, d⟩ := y
  simp only [fcD, Dat.tup.injEq, List.cons.injEq, Dat.int.injEq, Dat.str.injEq, and_true] at h
  rw [h.1, h.2]
theorem map_inj {α : Type} {f : α → Dat} (h : ∀ x y, f x = f y → x = y) : ∀ {xs ys : List α}, xs.map f = ys.map f → xs = ys
  | [], [], _ => rfl
  | [], _ :: _, e => by cases e
  | _ :: _, [], e => by cases e
  | x :: xs, y :: ys, e => by
    rw [List.map_cons, List.map_cons, List.cons.injEq] at e
    rw [h _ _ e.1, map_inj h e.2]
theorem eqD_inj {x y : Eqn} (h : eqD x = eqD y) : x = y := by
  obtain ⟨a, b⟩ := x
  obtain ⟨c, d⟩ := y
  simp only [eqD, Dat.tup.injEq, List.cons.injEq, Dat.int.injEq, and_true] at h
  rw [h.1, map_inj (fun _ _ => fcD_inj) h.2]
theorem ints_inj {xs ys : List Int} (h : xs.map Dat.int = ys.map Dat.int) : xs = ys := map_inj (fun _ _ => Dat.int.inj) h
theorem strs_inj {xs ys : List Str} (h : xs.map Dat.str = ys.map Dat.str) : xs = ys := map_inj (fun _ _ => Dat.str.inj) h
theorem okE_eqD {us : List Str} {eqs : List Eqn} (h : StOk us eqs) : ∀ e ∈ eqs, okE 3 (eqD e) := fun e he =>
  okE_tup (n := 2) (okE_two (okE_int _ _) (okE_tup (n := 1) (okE_maps fun f hf => okE_tup (n := 0) (okE_two (okE_int _ _) (okE_str (h.so _ (h.fu e he f hf)) 0)))))
section
variable {P : Program} {w : World} {K : PySem.W.Frag} {mg : Str → Option Value} {base : Heap} {ca : Nat → Addr}
def aspHoldsK (k : Bool) : ASp := fun ds P => ∃ (p q : Int) (bs : List Int) (us : List Str) (eqs : List Eqn) (xs : List Int), ds = [grpD p q bs, stO us eqs, sqD k (xs.map .int)] ∧ 0 < q ∧ 1 < p ∧ p < 2147483648 ∧ StOk us eqs ∧ ∀ b : Bool, (b = true ↔ xs.length = us.length ∧ sides p q us eqs xs = eqs.map (·.1)) → P (.bl b)
def aspHolds : ASp := fun ds P => ∃ k, aspHoldsK k ds P
end

/-! ### _law_same, over data -/
mutual
/-- data without objects, dicts, the pool -/
def plD : Dat → Bool
  | .non => true
  | .bl _ => true
  | .int _ => true
  | .str _ => true
  | .lst xs => plAll xs
  | .tup xs => plAll xs
  | _ => false
def plAll : List Dat → Bool
  | [] => true
  | x :: xs => plD x && plAll xs
end
theorem plAll_get : ∀ {xs : List Dat} {i : Nat} {x : Dat}, plAll xs = true → xs[i]? = some x → plD x = true
  | [], _, _, _, e => by cases e
  | y :: ys, 0, x, h, e => by
    have h : (plD y && plAll ys) = true := h
    rw [Bool.and_eq_true] at h
    cases e
    exact h.1
  | y :: ys, i + 1, x, h, e => by
    have h : (plD y && plAll ys) = true := h
    rw [Bool.and_eq_true] at h
    exact plAll_get h.2 (i := i) (by simpa using e)
theorem plAll_of : ∀ {xs : List Dat}, (∀ x ∈ xs, plD x = true) → plAll xs = true
  | [], _ => rfl
  | x :: xs, h => by
    show (plD x && plAll xs) = true
    rw [h x List.mem_cons_self, plAll_of fun y hy => h y (List.mem_cons_of_mem _ hy)]
    rfl
/-- what _law_same compares with, of so many levels -/
def okS : Nat → Dat → Prop
  | _, .non => True
  | _, .bl _ => True
  | _, .int _ => True
  | _, .str _ => True
  | n + 1, .lst ds => ds.length ≤ 1000000 ∧ ∀ d ∈ ds, okS n d
  | n + 1, .tup ds => ds.length ≤ 1000000 ∧ ∀ d ∈ ds, okS n d
  | _, _ => False
abbrev s__law_same : Stmt := top 23
theorem sc__law_same : FnScope ["actual", "due", "k"] ["actual", "due"] (defScope s__law_same) := ⟨rfl, rfl, rfl, by decide +kernel, rfl, by decide +kernel, by decide +kernel⟩
section
variable {P : Program} {w : World} {K : PySem.W.Frag} {mg : Str → Option Value} {base : Heap} {ca : Nat → Addr}
def aspSame : Nat → ASp
  | 0 => fun _ _ => False
  | n + 1 => fun ds P => ∃ a d : Dat, ds = [a, d] ∧ plD a = true ∧ okS n d ∧ ∀ b : Bool, (b = true ↔ a = d) → P (.bl b)
theorem ok_law_same {f : Addr} {fd : FuncData} (F : Fun K "_law_same" "_law_same" s__law_same f fd) (B : Blt mg) (mf : mg "_law_same" = some (.ref f)) (bf : Binds K fd ["actual", "due"] []) :
    ∀ n, FnOk P w K mg base CX0 n f fd ["actual", "due"] (toSp K ca (aspSame n))
  | 0 => ⟨fun _ _ _ _ ⟨_, _, _, _, _, _, h, _⟩ => h.elim, fun _ _ _ _ _ _ _ _ _ _ _ _ _ ⟨_, _, _, _, _, _, h, _⟩ => h.elim⟩
  | n + 1 => by
    have C__law_same : C8.Cal P w K mg base n "_law_same" (toSp K ca (aspSame n)) [] := ⟨⟨f, fd, _, [], ok_law_same F B mf bf n, mf, F.kp, bf, .nil⟩⟩
    refine F.ok sc__law_same (fun vs H Q E h => sp_len (n := 2) (fun ds P a => by obtain ⟨_, _, rfl, _⟩ := a; rfl) h) (fun cdv A outer s H vs Q E hr h => ⟨_, (pss_cons (ps_if (PW.pt (pw_or (pt_val (pe_callB (kisi (K := K) rfl) (by rfl) B.isinstance bt_isinstance (pa_cons (pv 1) (pa_cons (pe_bltn (v := .ty "tuple") (u := .type "tuple") (by rfl) B.tuple bt_tuple rfl) pa_nil)))) (pw_or1 (pt_val (pe_callB (kisi (K := K) rfl) (by rfl) B.isinstance bt_isinstance (pa_cons (pv 1) (pa_cons (pe_bltn (v := .ty "list") (u := .type "list") (by rfl) B.list bt_list rfl) pa_nil))))))) (pss_cons (ps_if (PW.pt (pw_or (pt_cmpR op_ne (pe_callB (kisi (K := K) rfl) (by rfl) B.isinstance bt_isinstance (pa_cons (pv 1) (pa_cons (pe_bltn (v := .ty "tuple") (u := .type "tuple") (by rfl) B.tuple bt_tuple rfl) pa_nil))) (pe_callB (kisi (K := K) rfl) (by rfl) B.isinstance bt_isinstance (pa_cons (pv 0) (pa_cons (pe_bltn (v := .ty "tuple") (u := .type "tuple") (by rfl) B.tuple bt_tuple rfl) pa_nil))) (nomark _)) (pw_or1 (pt_cmpR op_ne (pe_callB (kisi (K := K) rfl) (by rfl) B.isinstance bt_isinstance (pa_cons (pv 1) (pa_cons (pe_bltn (v := .ty "list") (u := .type "list") (by rfl) B.list bt_list rfl) pa_nil))) (pe_callB (kisi (K := K) rfl) (by rfl) B.isinstance bt_isinstance (pa_cons (pv 0) (pa_cons (pe_bltn (v := .ty "list") (u := .type "list") (by rfl) B.list bt_list rfl) pa_nil))) (nomark _))))) (pss_one (ps_ret pe_bl)) pss_nil)
      (pss_cons (ps_if (pt_cmpR op_ne (pe_callB (klen (K := K) rfl) (by rfl) B.len bt_len (pa_cons (pv 0) pa_nil)) (pe_callB (klen (K := K) rfl) (by rfl) B.len bt_len (pa_cons (pv 1) pa_nil)) (nomark _)) (pss_one (ps_ret pe_bl)) pss_nil)
      (pss_cons (ps_for PassesOwn.never rfl (pi_range1 rfl B.range (pa_cons (pe_callB (klen (K := K) rfl) (by rfl) B.len bt_len (pa_cons (pv 1) pa_nil)) pa_nil)) (pg_name (i := 2) sc__law_same.nd rfl (.inl rfl))
      (pss_one (ps_if (pt_not (pt_val (C8.pe_c C__law_same hr (by omega) rfl (pa_cons (pe_ix (kixs (K := K) rfl) (pv 0) (pv 2) (fun _ _ => rfl)) (pa_cons (pe_ix (kixs (K := K) rfl) (pv 1) (pv 2) (fun _ _ => rfl)) pa_nil))))) (pss_one (ps_ret pe_bl)) pss_nil)))
      (pss_one (ps_ret pe_bl))))) pss_nil)
      (pss_cons (ps_if (PW.pt (pw_or (pt_cmpR op_isN (pv 1) pe_non (nomark _)) (pw_or1 (pt_val (pe_callB (kisi (K := K) rfl) (by rfl) B.isinstance bt_isinstance (pa_cons (pv 1) (pa_cons (pe_bltn (v := .ty "bool") (u := .type "bool") (by rfl) B.bool bt_bool rfl) pa_nil))))))) (pss_one (ps_ret (pe_and (pe_cmpR op_eq (pe_cmpR op_isN (pv 0) pe_non (nomark _)) (pe_cmpR op_isN (pv 1) pe_non (nomark _)) (nomark _)) (pe_and (pe_or (pe_cmpR op_isN (pv 1) pe_non (nomark _)) (pe_one (pe_callB (kisi (K := K) rfl) (by rfl) B.isinstance bt_isinstance (pa_cons (pv 0) (pa_cons (pe_bltn (v := .ty "bool") (u := .type "bool") (by rfl) B.bool bt_bool rfl) pa_nil))))) (pe_one (pe_cmpR op_eq (pv 0) (pv 1) (nomark _))))))) pss_nil)
      (pss_cons (ps_if (pt_val (pe_callB (kisi (K := K) rfl) (by rfl) B.isinstance bt_isinstance (pa_cons (pv 1) (pa_cons (pe_bltn (v := .ty "int") (u := .type "int") (by rfl) B.int bt_int rfl) pa_nil)))) (pss_one (ps_ret (pe_and (pe_callB (kisi (K := K) rfl) (by rfl) B.isinstance bt_isinstance (pa_cons (pv 0) (pa_cons (pe_bltn (v := .ty "int") (u := .type "int") (by rfl) B.int bt_int rfl) pa_nil))) (pe_and (pe_not (pe_callB (kisi (K := K) rfl) (by rfl) B.isinstance bt_isinstance (pa_cons (pv 0) (pa_cons (pe_bltn (v := .ty "bool") (u := .type "bool") (by rfl) B.bool bt_bool rfl) pa_nil)))) (pe_one (pe_cmpR op_eq (pv 0) (pv 1) (nomark _))))))) pss_nil)
      (pss_one (ps_ret (pe_and (pe_callB (kisi (K := K) rfl) (by rfl) B.isinstance bt_isinstance (pa_cons (pv 0) (pa_cons (pe_bltn (v := .ty "str") (u := .type "str") (by rfl) B.str bt_str rfl) pa_nil))) (pe_one (pe_cmpR op_eq (pv 0) (pv 1) (nomark _))))))))),
    fn_run h (fun po => (s_seq (s_if (fun _ => (a_or (a_tb (a_isT (by decide) a_var)) (a_tb (a_isT (by decide) a_var)))) (s_seq (s_if (fun _ => (a_or (a_test (a_op pst_rv rok_ne (a_isT (by decide) a_var) (a_isT (by decide) a_var))) (a_test (a_op pst_rv rok_ne (a_isT (by decide) a_var) (a_isT (by decide) a_var))))) (s_ret fun _ => a_bl) s_next)
      (s_seq (s_if (fun _ => (a_test (a_op pst_rv rok_ne (a_b1 u_len (a_pk a_var)) (a_b1 u_len (a_pk a_var))))) (s_ret fun _ => a_bl) s_next)
      (s_seq (s_for (vs := [2]) (fun _ => (i_ran1 (a_cons (a_b1 u_len (a_pk a_var)) a_nil))) (fun _ => (g_name (by decide)))
      (s_if (fun _ => (a_not (a_tb (a_call (a_cons (a_op pst_pk rok_ix (a_pk a_var) a_var) (a_cons (a_op pst_pk rok_ix (a_pk a_var) a_var) a_nil)))))) (s_ret fun _ => a_bl) s_next))
      (s_ret fun _ => a_bl)))) s_next)
      (s_seq (s_if (fun _ => (a_or (a_test (a_op pst_rv rok_isN a_var a_non)) (a_tb (a_isT (by decide) a_var)))) (s_ret fun _ => (a_andV (a_op pst_rv rok_eq (a_op pst_rv rok_isN a_var a_non) (a_op pst_rv rok_isN a_var a_non)) (a_andV (a_orV (a_op pst_rv rok_isN a_var a_non) (a_isT (by decide) a_var)) (a_op pst_rv rok_eq a_var a_var)))) s_next)
      (s_seq (s_if (fun _ => (a_tb (a_isT (by decide) a_var))) (s_ret fun _ => (a_andV (a_isT (by decide) a_var) (a_andV (a_notV (a_isT (by decide) a_var)) (a_op pst_rv rok_eq a_var a_var)))) s_next)
      (s_ret fun _ => (a_andV (a_isT (by decide) a_var) (a_op pst_rv rok_eq a_var a_var))))))) (fun ds P a => by obtain ⟨_, _, rfl, _⟩ := a; exact Nat.le_of_ble_eq_true rfl) ?_⟩)
    rintro ds P ⟨a, d, rfl, ha, hd, hp⟩
    have no : ∀ {x : Bool}, x = false → ¬ a = d → P (.bl x) := fun {x} e h => hp x ⟨fun z => (by rw [e] at z; cases z), fun z => absurd z h⟩
    cases d with
    | non => cases a <;> first | (cases ha; done) | (walk_at "dd"; exact hp _ (by simp))
    | bl b => cases a <;> first | (cases ha; done) | (walk_at "dd"; exact hp _ (by simp))
    | int b => cases a <;> first | (cases ha; done) | (walk_at "dd"; exact hp _ (by simp))
    | str b => cases a <;> first | (cases ha; done) | (walk_at "dd"; exact hp _ (by simp))
    | lst ys =>
      obtain ⟨n, rfl⟩ : ∃ m, n = m + 1 := by
        cases n with
        | zero => exact hd.elim
        | succ n => exact ⟨n, rfl⟩
      obtain ⟨hl, hd⟩ := hd
      cases a with
      | lst xs =>
        walk_at "dd"
        refine twoN (fun e => ?_) (fun e => ?_)
        · refine no rfl fun z => e ?_
          rw [Dat.lst.injEq] at z
          rw [z]
        · have el : xs.length = ys.length := by omega
          refine ⟨by omega, by omega, ?_⟩
          refine forA_ran (fun i env => ∃ y, env = [.d (.lst xs), .d (.lst ys), y] ∧ ∀ j < i, xs[j]? = ys[j]?) ⟨_, rfl, fun j hj => absurd hj (Nat.not_lt_zero _)⟩ ?_ ?_
          · rintro i env hi ⟨y, rfl, hj⟩ N hN
            have hie : i < ys.length := by omega
            have hid : i < xs.length := by omega
            walk_at "dd"
            rw [atD (Int.zero_add _) (List.getElem?_eq_getElem hid), atD (Int.zero_add _) (List.getElem?_eq_getElem hie)]
            refine ⟨_, _, rfl, plAll_get (show plAll xs = true from ha) (List.getElem?_eq_getElem hid), hd _ (List.getElem_mem hie), fun b hb => ?_⟩
            walk_at "dd"
            cases b with
            | true =>
              refine hN _ ⟨_, rfl, fun j h => ?_⟩
              by_cases hji : j < i
              · exact hj j hji
              · have : j = i := by omega
                subst this
                rw [List.getElem?_eq_getElem hid, List.getElem?_eq_getElem hie, hb.mp rfl]
            | false =>
              refine no rfl fun z => ?_
              rw [Dat.lst.injEq] at z
              subst z
              exact absurd (hb.mpr rfl) (by decide)
          · rintro env ⟨y, rfl, hj⟩
            walk_at "dd"
            refine hp _ ⟨fun _ => ?_, fun _ => rfl⟩
            congr 1
            refine List.ext_getElem? fun j => ?_
            by_cases h : j < ys.length
            · exact hj j h
            · rw [List.getElem?_eq_none (by omega), List.getElem?_eq_none (by omega)]
      | non => walk_at "dd"; exact no rfl (by simp)
      | bl b => walk_at "dd"; exact no rfl (by simp)
      | int b => walk_at "dd"; exact no rfl (by simp)
      | str b => walk_at "dd"; exact no rfl (by simp)
      | tup b => walk_at "dd"; exact no rfl (by simp)
      | _ => cases ha
    | tup ys =>
      obtain ⟨n, rfl⟩ : ∃ m, n = m + 1 := by
        cases n with
        | zero => exact hd.elim
        | succ n => exact ⟨n, rfl⟩
      obtain ⟨hl, hd⟩ := hd
      cases a with
      | tup xs =>
        walk_at "dd"
        refine twoN (fun e => ?_) (fun e => ?_)
        · refine no rfl fun z => e ?_
          rw [Dat.tup.injEq] at z
          rw [z]
        · have el : xs.length = ys.length := by omega
          refine ⟨by omega, by omega, ?_⟩
          refine forA_ran (fun i env => ∃ y, env = [.d (.tup xs), .d (.tup ys), y] ∧ ∀ j < i, xs[j]? = ys[j]?) ⟨_, rfl, fun j hj => absurd hj (Nat.not_lt_zero _)⟩ ?_ ?_
          · rintro i env hi ⟨y, rfl, hj⟩ N hN
            have hie : i < ys.length := by omega
            have hid : i < xs.length := by omega
            walk_at "dd"
            rw [atD (Int.zero_add _) (List.getElem?_eq_getElem hid), atD (Int.zero_add _) (List.getElem?_eq_getElem hie)]
            refine ⟨_, _, rfl, plAll_get (show plAll xs = true from ha) (List.getElem?_eq_getElem hid), hd _ (List.getElem_mem hie), fun b hb => ?_⟩
            walk_at "dd"
            cases b with
            | true =>
              refine hN _ ⟨_, rfl, fun j h => ?_⟩
              by_cases hji : j < i
              · exact hj j hji
              · have : j = i := by omega
                subst this
                rw [List.getElem?_eq_getElem hid, List.getElem?_eq_getElem hie, hb.mp rfl]
            | false =>
              refine no rfl fun z => ?_
              rw [Dat.tup.injEq] at z
              subst z
              exact absurd (hb.mpr rfl) (by decide)
          · rintro env ⟨y, rfl, hj⟩
            walk_at "dd"
            refine hp _ ⟨fun _ => ?_, fun _ => rfl⟩
            congr 1
            refine List.ext_getElem? fun j => ?_
            by_cases h : j < ys.length
            · exact hj j h
            · rw [List.getElem?_eq_none (by omega), List.getElem?_eq_none (by omega)]
      | non => walk_at "dd"; exact no rfl (by simp)
      | bl b => walk_at "dd"; exact no rfl (by simp)
      | int b => walk_at "dd"; exact no rfl (by simp)
      | str b => walk_at "dd"; exact no rfl (by simp)
      | lst b => walk_at "dd"; exact no rfl (by simp)
      | _ => cases ha
    | pool => cases n <;> exact hd.elim
    | obj c xs => cases n <;> exact hd.elim
    | dK xs => cases n <;> exact hd.elim
    | cell xs => cases n <;> exact hd.elim
end

/-! ### _law_same in a suite: due is no list -/
def sNever : ASt := fun _ _ => False
theorem s_never {W : Wd} : AStm W tNever sNever := ⟨fun _ _ _ _ _ _ _ _ _ _ _ _ _ _ h => False.elim h⟩
def flD : Dat → Prop
  | .non => True
  | .bl _ => True
  | .int _ => True
  | .str _ => True
  | _ => False
section
variable {P : Program} {w : World} {K : PySem.W.Frag} {mg : Str → Option Value} {base : Heap} {ca : Nat → Addr}
def aspSameW : ASp := fun ds P => ∃ a d : Dat, ds = [a, d] ∧ plD a = true ∧ flD d ∧ ∀ b : Bool, (b = true ↔ a = d) → P (.bl b)
theorem ok_law_sameW {f : Addr} {fd : FuncData} (F : Fun K "_law_same" "_law_same" s__law_same f fd) (B : Blt mg) : FnW P w K mg base 1 f fd ["actual", "due"] (toSp K ca aspSameW) := by
  refine fun_okW F sc__law_same (fun vs H Q E h => sp_len (n := 2) (fun ds P a => by obtain ⟨_, _, rfl, _⟩ := a; rfl) h) (fun cdv A outer s H vs Q E hr h => ⟨_, (pss_cons (ps_if (PW.pt (pw_or (pt_val (pe_callB (kisi (K := K) rfl) (by rfl) B.isinstance bt_isinstance (pa_cons (pv 1) (pa_cons (pe_bltn (v := .ty "tuple") (u := .type "tuple") (by rfl) B.tuple bt_tuple rfl) pa_nil)))) (pw_or1 (pt_val (pe_callB (kisi (K := K) rfl) (by rfl) B.isinstance bt_isinstance (pa_cons (pv 1) (pa_cons (pe_bltn (v := .ty "list") (u := .type "list") (by rfl) B.list bt_list rfl) pa_nil))))))) pss_never pss_nil)
      (pss_cons (ps_if (PW.pt (pw_or (pt_cmpR op_isN (pv 1) pe_non (nomark _)) (pw_or1 (pt_val (pe_callB (kisi (K := K) rfl) (by rfl) B.isinstance bt_isinstance (pa_cons (pv 1) (pa_cons (pe_bltn (v := .ty "bool") (u := .type "bool") (by rfl) B.bool bt_bool rfl) pa_nil))))))) (pss_one (ps_ret (pe_and (pe_cmpR op_eq (pe_cmpR op_isN (pv 0) pe_non (nomark _)) (pe_cmpR op_isN (pv 1) pe_non (nomark _)) (nomark _)) (pe_and (pe_or (pe_cmpR op_isN (pv 1) pe_non (nomark _)) (pe_one (pe_callB (kisi (K := K) rfl) (by rfl) B.isinstance bt_isinstance (pa_cons (pv 0) (pa_cons (pe_bltn (v := .ty "bool") (u := .type "bool") (by rfl) B.bool bt_bool rfl) pa_nil))))) (pe_one (pe_cmpR op_eq (pv 0) (pv 1) (nomark _))))))) pss_nil)
      (pss_cons (ps_if (pt_val (pe_callB (kisi (K := K) rfl) (by rfl) B.isinstance bt_isinstance (pa_cons (pv 1) (pa_cons (pe_bltn (v := .ty "int") (u := .type "int") (by rfl) B.int bt_int rfl) pa_nil)))) (pss_one (ps_ret (pe_and (pe_callB (kisi (K := K) rfl) (by rfl) B.isinstance bt_isinstance (pa_cons (pv 0) (pa_cons (pe_bltn (v := .ty "int") (u := .type "int") (by rfl) B.int bt_int rfl) pa_nil))) (pe_and (pe_not (pe_callB (kisi (K := K) rfl) (by rfl) B.isinstance bt_isinstance (pa_cons (pv 0) (pa_cons (pe_bltn (v := .ty "bool") (u := .type "bool") (by rfl) B.bool bt_bool rfl) pa_nil)))) (pe_one (pe_cmpR op_eq (pv 0) (pv 1) (nomark _))))))) pss_nil)
      (pss_one (ps_ret (pe_and (pe_callB (kisi (K := K) rfl) (by rfl) B.isinstance bt_isinstance (pa_cons (pv 0) (pa_cons (pe_bltn (v := .ty "str") (u := .type "str") (by rfl) B.str bt_str rfl) pa_nil))) (pe_one (pe_cmpR op_eq (pv 0) (pv 1) (nomark _))))))))),
    fn_run h (fun po => (s_seq (s_if (fun _ => (a_or (a_tb (a_isT (by decide) a_var)) (a_tb (a_isT (by decide) a_var)))) s_never s_next)
      (s_seq (s_if (fun _ => (a_or (a_test (a_op pst_rv rok_isN a_var a_non)) (a_tb (a_isT (by decide) a_var)))) (s_ret fun _ => (a_andV (a_op pst_rv rok_eq (a_op pst_rv rok_isN a_var a_non) (a_op pst_rv rok_isN a_var a_non)) (a_andV (a_orV (a_op pst_rv rok_isN a_var a_non) (a_isT (by decide) a_var)) (a_op pst_rv rok_eq a_var a_var)))) s_next)
      (s_seq (s_if (fun _ => (a_tb (a_isT (by decide) a_var))) (s_ret fun _ => (a_andV (a_isT (by decide) a_var) (a_andV (a_notV (a_isT (by decide) a_var)) (a_op pst_rv rok_eq a_var a_var)))) s_next)
      (s_ret fun _ => (a_andV (a_isT (by decide) a_var) (a_op pst_rv rok_eq a_var a_var))))))) (fun ds P a => by obtain ⟨_, _, rfl, _⟩ := a; exact Nat.le_of_ble_eq_true rfl) ?_⟩)
  rintro ds P ⟨a, d, rfl, ha, hd, hp⟩
  cases d with
  | non => cases a <;> first | (cases ha; done) | (walk_at "dd"; exact hp _ (by simp))
  | bl b => cases a <;> first | (cases ha; done) | (walk_at "dd"; exact hp _ (by simp))
  | int b => cases a <;> first | (cases ha; done) | (walk_at "dd"; exact hp _ (by simp))
  | str b => cases a <;> first | (cases ha; done) | (walk_at "dd"; exact hp _ (by simp))
  | _ => exact hd.elim
end

abbrev s__law_power : Stmt := top 24
theorem sc__law_power : FnScope ["base", "exponent", "modulus", "result", "k"] ["base", "exponent", "modulus"] (defScope s__law_power) := ⟨rfl, rfl, rfl, by decide +kernel, rfl, by decide +kernel, by decide +kernel⟩
section
variable {P : Program} {w : World} {K : PySem.W.Frag} {mg : Str → Option Value} {base : Heap}
def spLPower : Sp := fun vs H Q _ => ∃ a e m : Int, vs = [.int a, .int e, .int m] ∧ 1 < m ∧ m < 2147483648 ∧ e < 4611686018427387904 ∧ 0 ≤ e ∧ Q (.int (a ^ e.toNat % m)) H
theorem ok_law_power {f : Addr} {fd : FuncData} (F : Fun K "_law_power" "_law_power" s__law_power f fd) (B : Blt mg) : FnOk P w K mg base CX0 1 f fd ["base", "exponent", "modulus"] spLPower := by
  refine F.ok sc__law_power (fun vs H Q E h => ?_) (fun cdv A outer s H vs Q E hr h => ?_)
  · obtain ⟨a, e, m, rfl, _⟩ := h
    rfl
  · obtain ⟨a, e, m, rfl, m0, m1, e1, e0, z⟩ := h
    refine ⟨_, (pss_cons (ps_set (i := 3) sc__law_power.nd rfl (.inl rfl) pe_int)
      (pss_cons (ps_for PassesOwn.never rfl (pi_range1 rfl B.range (pa_cons (pv 1) pa_nil)) (pg_name (i := 4) sc__law_power.nd rfl (.inl rfl))
      (pss_one (ps_set (i := 3) sc__law_power.nd rfl (.inl rfl) (pe_op op_mod (pe_callTy call_int1 (by rfl) B.int bt_int (pa_cons (pe_op op_mul (pv 3) (pv 0)) pa_nil)) (pv 2)))))
      (pss_one (ps_ret (pv 3))))), ?_⟩
    walk_at "go"
    refine for_range (fun i σ' H' => At (∃ y, σ' = [some (.int a), some (.int e), some (.int m), some (.int (a ^ i % m)), y] ∧ H' = H)) (.of ⟨none, ?_, rfl⟩) ?_ ?_
    · rw [Int.pow_zero, Int.emod_eq_of_lt (by omega) m0]
      rfl
    · intro i σ' H' hi hW
      obtain ⟨y, rfl, rfl⟩ := hW.out
      have bd := emod_bd (a := a ^ i) (m := m) (by omega)
      walk_at "go"
      refine .of ⟨some (V.int (0 + (i : Int))), ?_, rfl⟩
      rw [Int.pow_succ, ← mul_emod_l]
      rfl
    · intro σ' H' hW
      obtain ⟨y, rfl, rfl⟩ := hW.out
      walk_at "go"
      exact z
end

def aspLPower : ASp := fun ds P => ∃ a e m : Int, ds = [.int a, .int e, .int m] ∧ 1 < m ∧ m < 2147483648 ∧ e < 4611686018427387904 ∧ 0 ≤ e ∧ P (.int (a ^ e.toNat % m))
theorem sp_lpower {K : PySem.W.Frag} {ca : Nat → Addr} : ∀ vs H Q E, toSp K ca aspLPower vs H Q E → spLPower vs H Q E := fun vs H Q E ⟨po, F, ds, P, ok, r, ⟨a, e, m, ed, h1, h2, h3, h4, hp⟩, k⟩ => by
  subst ed
  have ev : vs = [V.int a, .int e, .int m] := RvAll.ints (ns := [a, e, m]) r
  subst ev
  exact ⟨a, e, m, rfl, h1, h2, h3, h4, k _ F H _ hp (.refl ok) (.int _)⟩

/-! ### the law's own sums, over data -/
abbrev s__law_raised : Stmt := top 25
theorem sc__law_raised : FnScope ["group", "element", "exponent"] ["group", "element", "exponent"] (defScope s__law_raised) := ⟨rfl, rfl, rfl, by decide +kernel, rfl, by decide +kernel, by decide +kernel⟩
abbrev s__law_product : Stmt := top 26
theorem sc__law_product : FnScope ["group", "pairs", "result", "element", "exponent"] ["group", "pairs"] (defScope s__law_product) := ⟨rfl, rfl, rfl, by decide +kernel, rfl, by decide +kernel, by decide +kernel⟩
section
variable {P : Program} {w : World} {K : PySem.W.Frag} {mg : Str → Option Value} {base : Heap} {ca : Nat → Addr}
def aspLRaised : ASp := fun ds P => ∃ (p q e k : Int) (bs : List Int), ds = [lgD p q bs, .int e, .int k] ∧ 0 < q ∧ q < 2147483648 ∧ 1 < p ∧ p < 2147483648 ∧ P (.int (rz p q e k))
theorem ok_law_raised {f : Addr} {fd : FuncData} (F : Fun K "_law_raised" "_law_raised" s__law_raised f fd) (B : Blt mg) (C__law_power : C8.Cal P w K mg base 1 "_law_power" (toSp K ca aspLPower) []) : FnOk P w K mg base CX0 2 f fd ["group", "element", "exponent"] (toSp K ca aspLRaised) := by
  refine F.ok sc__law_raised (fun vs H Q E h => sp_len (n := 3) (fun ds P a => by obtain ⟨_, _, _, _, _, rfl, _⟩ := a; rfl) h) (fun cdv A outer s H vs Q E hr h => ⟨_, (pss_one (ps_ret (C8.pe_c C__law_power hr (by omega) rfl (pa_cons (pv 1) (pa_cons (pe_op op_mod (pe_callTy call_int1 (by rfl) B.int bt_int (pa_cons (pv 2) pa_nil)) (pe_ix (kixs (K := K) rfl) (pv 0) pe_int (fun _ _ => rfl))) (pa_cons (pe_ix (kixs (K := K) rfl) (pv 0) pe_int (fun _ _ => rfl)) pa_nil)))))),
    fn_run h (fun po => (s_ret fun _ => (a_call (a_cons a_var (a_cons (a_op pst_rv rok_I (a_b1 u_int a_var) (a_op pst_pk rok_ix (a_pk a_var) a_int)) (a_cons (a_op pst_pk rok_ix (a_pk a_var) a_int) a_nil)))))) (fun ds P a => by obtain ⟨_, _, _, _, _, rfl, _⟩ := a; exact Nat.le_of_ble_eq_true rfl) ?_⟩)
  rintro ds P ⟨p, q, e, k, bs, rfl, q0, q1, p0, p1, hp⟩
  have bd := emod_bd (a := k) q0
  refine ⟨propOnly (by walk_at "sd"), ?_⟩
  exact ⟨_, _, _, rfl, by omega, by omega, by omega, by omega, hp⟩
def aspLProduct : ASp := fun ds P => ∃ (p q : Int) (bs : List Int) (prs : List (Int × Int)), ds = [lgD p q bs, .lst (prs.map prT)] ∧ 0 < q ∧ q < 2147483648 ∧ 1 < p ∧ p < 2147483648 ∧ P (.int (prZ p q prs))
theorem ok_law_product {f : Addr} {fd : FuncData} (F : Fun K "_law_product" "_law_product" s__law_product f fd) (B : Blt mg) (C__law_raised : C8.Cal P w K mg base 2 "_law_raised" (toSp K ca aspLRaised) []) : FnOk P w K mg base CX0 3 f fd ["group", "pairs"] (toSp K ca aspLProduct) := by
  refine F.ok sc__law_product (fun vs H Q E h => sp_len (n := 2) (fun ds P a => by obtain ⟨_, _, _, _, rfl, _⟩ := a; rfl) h) (fun cdv A outer s H vs Q E hr h => ⟨_, (pss_cons (ps_set (i := 2) sc__law_product.nd rfl (.inl rfl) pe_int)
      (pss_cons (ps_for PassesOwn.never rfl (kpil (K := K) rfl (pv 1)) (kgtup (K := K) (n := 2) rfl rfl (pgs_cons (pg_name (i := 3) sc__law_product.nd rfl (.inl rfl)) (pgs_cons (pg_name (i := 4) sc__law_product.nd rfl (.inl rfl)) pgs_nil)))
      (pss_one (ps_set (i := 2) sc__law_product.nd rfl (.inl rfl) (pe_op op_mod (pe_callTy call_int1 (by rfl) B.int bt_int (pa_cons (pe_op op_mul (pv 2) (C8.pe_c C__law_raised hr (by omega) rfl (pa_cons (pv 0) (pa_cons (pv 3) (pa_cons (pv 4) pa_nil))))) pa_nil)) (pe_ix (kixs (K := K) rfl) (pv 0) pe_int (fun _ _ => rfl))))))
      (pss_one (ps_ret (pv 2))))),
    fn_run h (fun po => (s_seq (s_set fun _ => a_int)
      (s_seq (s_for (vs := [3, 4]) (fun _ => (i_list a_var)) (fun _ => (g_tup (g_cons (g_name (by decide)) (g_cons (g_name (by decide)) g_nil tot_name) tot_name)))
      (s_set fun _ => (a_op pst_rv rok_I (a_b1 u_int (a_op pst_rv rok_I a_var (a_call (a_cons a_var (a_cons a_var (a_cons a_var a_nil)))))) (a_op pst_pk rok_ix (a_pk a_var) a_int))))
      (s_ret fun _ => a_var)))) (fun ds P a => by obtain ⟨_, _, _, _, rfl, _⟩ := a; exact Nat.le_of_ble_eq_true rfl) ?_⟩)
  rintro ds P ⟨p, q, bs, prs, rfl, q0, q1, p0, p1, hp⟩
  refine forA_map (fun i env => ∃ y3 y4, env = [.d (lgD p q bs), .d (.lst (prs.map prT)), .d (.int (prF p q 1 (prs.take i))), y3, y4]) ⟨_, _, rfl⟩ ?_ ?_
  · rintro i ⟨e, k⟩ env hi ⟨y3, y4, rfl⟩ N hN
    have bd := prF_bd (q := q) p0 (prs.take i) 1 (by omega) p0
    refine ⟨p, q, _, _, bs, rfl, q0, q1, p0, p1, ?_⟩
    refine ⟨propOnly (by walk_at "sd"), propOnly (by walk_at "sd"), hN _ ⟨.d (.int e), .d (.int k), ?_⟩⟩
    rw [List.take_add_one, hi]
    show _ = [_, _, Sl.d (.int (prF p q 1 (prs.take i ++ [(e, k)]))), _, _]
    rw [prF_snoc]
    rfl
  · rintro env ⟨y3, y4, rfl⟩
    show P (.int (prF p q 1 (prs.take prs.length)))
    rw [List.take_length]
    exact hp
def aspLNumbers : ASp := fun ds P => ∃ (p q n : Int) (bs : List Int), ds = [.pool, lgD p q bs, .int n] ∧ 0 < q ∧ q < 1073741824 ∧ 0 ≤ n ∧ n ≤ 1000 ∧ ∀ ns : List Int, (ns.length : Int) = n → (∀ x ∈ ns, 0 ≤ x ∧ x < q) → P (.lst (ns.map .int))
end

def tabN : List (Nat × Nat) := [(23, 11), (47, 23), (59, 29), (103, 17), (83, 41), (137, 17), (29, 7), (607, 101), (11, 5), (53, 13), (99991, 101), (999983, 79), (2039, 1019), (7, 3)]
def tabI : List (Int × Int) := [(23, 11), (47, 23), (59, 29), (103, 17), (83, 41), (137, 17), (29, 7), (607, 101), (11, 5), (53, 13), (99991, 101), (999983, 79), (2039, 1019), (7, 3)]
def tab : List (Int × Int) := tabN.map fun x => ((x.1 : Int), (x.2 : Int))
theorem tab_eq : tab = tabI := rfl
def rootN (p q : Nat) : Nat := (List.range 38).foldl (fun r i => if r = 1 then (2 + i) ^ ((p - 1) / q) % p else r) 1
set_option maxRecDepth 100000 in
theorem tab_ok : ∀ x ∈ tabN, 3 ≤ x.1 ∧ x.1 ≤ 1000000 ∧ 3 ≤ x.2 ∧ x.2 ≤ 1100 ∧ (x.1 - 1) % x.2 = 0 ∧ (∀ d < 1001, 2 ≤ d → d * d ≤ x.1 → x.1 % d ≠ 0) ∧ (∀ d < 34, 2 ≤ d → d * d ≤ x.2 → x.2 % d ≠ 0) ∧
    1 < rootN x.1 x.2 ∧ rootN x.1 x.2 < x.1 ∧ rootN x.1 x.2 ^ x.2 % x.1 = 1 ∧ ∀ e < x.2, 1 ≤ e → rootN x.1 x.2 ^ e % x.1 ≠ 1 := by decide +kernel
/-- what the table's rows are -/
structure Row (p q R : Int) : Prop where
  p3 : 3 ≤ p
  pm : p ≤ 1000000
  q3 : 3 ≤ q
  qm : q ≤ 1100
  dv : (p - 1) % q = 0
  pp : Pr p
  qp : Pr q
  r1 : 1 < R
  rp : R < p
  rq : R ^ q.toNat % p = 1
  ro : ∀ e : Nat, 1 ≤ e → (e : Int) < q → R ^ e % p ≠ 1
theorem pr_of {n B : Nat} (h2 : 2 ≤ n) (hB : n < B * B) (h : ∀ d < B, 2 ≤ d → d * d ≤ n → n % d ≠ 0) : Pr (n : Int) := by
  refine ⟨by omega, fun d d2 dd e => ?_⟩
  obtain ⟨k, rfl⟩ : ∃ k : Nat, d = k := ⟨d.toNat, by omega⟩
  have kk : k * k ≤ n := by
    have : ((k * k : Nat) : Int) ≤ (n : Int) := by
      rw [Int.natCast_mul]
      exact dd
    omega
  have kB : k < B := by
    refine Nat.lt_of_not_le fun z => ?_
    have := Nat.mul_le_mul z z
    omega
  refine h k kB (by omega) kk ?_
  have : ((n % k : Nat) : Int) = 0 := by
    rw [Int.natCast_emod]
    exact e
  omega
theorem row_of {p q : Int} (h : (p, q) ∈ tab) : Row p q (rootN p.toNat q.toNat) := by
  unfold tab at h
  obtain ⟨⟨a, b⟩, hm, e⟩ := List.mem_map.mp h
  obtain ⟨rfl, rfl⟩ := Prod.mk.inj e
  obtain ⟨h1, h2, h3, h4, h5, h6, h7, h8, h9, h10, h11⟩ := tab_ok _ hm
  simp only at h1 h2 h3 h4 h5 h6 h7 h8 h9 h10 h11
  rw [Int.toNat_natCast, Int.toNat_natCast]
  have cast : ∀ e : Nat, ((rootN a b : Nat) : Int) ^ e % (a : Int) = ((rootN a b ^ e % a : Nat) : Int) := fun e => by
    rw [Int.natCast_emod, Int.natCast_pow]
  generalize rootN a b = R at h8 h9 h10 h11 cast
  refine ⟨by omega, by omega, by omega, by omega, ?_, pr_of (by omega) (B := 1001) (by omega) h6, pr_of (by omega) (B := 34) (by omega) h7, by omega, by omega, ?_, fun e e1 e2 => ?_⟩
  · rw [show (a : Int) - 1 = ((a - 1 : Nat) : Int) by omega, ← Int.natCast_emod, h5]
    rfl
  · rw [Int.toNat_natCast, cast, h10]
    rfl
  · rw [cast]
    have := h11 e (by omega) e1
    omega
/-- the powers of the root are different -/
theorem Row.inj {p q R : Int} (r : Row p q R) {i j : Nat} (hij : i < j) (hj : (j : Int) < q) : R ^ i % p ≠ R ^ j % p := by
  intro e
  have qn : ∃ n : Nat, q = n := ⟨q.toNat, by have := r.q3; omega⟩
  obtain ⟨n, rfl⟩ := qn
  have e2 : R ^ i * R ^ (n - i) % p = R ^ j * R ^ (n - i) % p := by rw [← mul_emod_l, e, mul_emod_l]
  rw [← Int.pow_add, ← Int.pow_add, show i + (n - i) = n by omega, show j + (n - i) = n + (j - i) by omega, Int.pow_add, ← mul_emod_l] at e2
  have rq := r.rq
  rw [Int.toNat_natCast] at rq
  rw [rq, Int.one_mul] at e2
  exact r.ro (j - i) (by omega) (by omega) e2.symm
theorem root_el {p q R : Int} (r : Row p q R) {e : Nat} (h1 : 1 ≤ e) (h2 : (e : Int) < q) : R ^ e % p ≠ 1 ∧ El p q (R ^ e % p) := by
  have hp := r.p3
  have bd := emod_bd (a := R ^ e) (m := p) (by omega)
  have ne := r.ro e h1 h2
  have pq : (R ^ e % p) ^ q.toNat % p = 1 := by
    rw [pow_emod, ← Int.pow_mul, Nat.mul_comm, Int.pow_mul, ← pow_emod, r.rq, Int.one_pow]
    exact Int.emod_eq_of_lt (by omega) (by omega)
  refine ⟨ne, ?_, bd.2, pq⟩
  refine Classical.byContradiction fun hz => ?_
  have z : R ^ e % p = 0 := by omega
  rw [z] at pq
  have q3 := r.q3
  rw [show q.toNat = (q.toNat - 1) + 1 by omega, Int.pow_succ, Int.mul_zero, Int.zero_emod] at pq
  omega
theorem nodup_le {α : Type} [DecidableEq α] : ∀ {l m : List α}, l.Nodup → (∀ x ∈ l, x ∈ m) → l.length ≤ m.length
  | [], _, _, _ => Nat.zero_le _
  | a :: l, m, h, s => by
    obtain ⟨n1, n2⟩ := List.nodup_cons.mp h
    have ha := s a (List.mem_cons_self ..)
    have ih := nodup_le (l := l) (m := m.erase a) n2 fun x hx => (List.mem_erase_of_ne (fun e => by subst e; exact n1 hx)).mpr (s x (List.mem_cons_of_mem _ hx))
    rw [List.length_erase_of_mem ha] at ih
    have := List.length_pos_of_mem ha
    rw [List.length_cons]
    omega
/-- what _law_group hands back -/
structure GG (p q : Int) (bs : List Int) (count least : Int) : Prop where
  tb : (p, q) ∈ tab
  ql : least ≤ q
  qc : count < q
  ln : (bs.length : Int) = count
  nd : bs.Nodup
  po : ∀ b ∈ bs, ∃ e : Nat, 1 ≤ e ∧ (e : Int) < q ∧ b = (rootN p.toNat q.toNat : Int) ^ e % p
def rootF (p q : Int) : Nat → Int
  | 0 => 1
  | i + 1 => if rootF p q i = 1 then (2 + i : Int) ^ ((p - 1) / q).toNat % p else rootF p q i
theorem rootF_nat (a b : Nat) (ha : 1 ≤ a) : ∀ i, rootF a b i = (((List.range i).foldl (fun r i => if r = 1 then (2 + i) ^ ((a - 1) / b) % a else r) 1 : Nat) : Int)
  | 0 => rfl
  | i + 1 => by
    rw [List.range_succ, List.foldl_append]
    show (if rootF a b i = 1 then _ else _) = _
    rw [rootF_nat a b ha i]
    generalize (List.range i).foldl (fun r i => if r = 1 then (2 + i) ^ ((a - 1) / b) % a else r) 1 = r
    show (if (r : Int) = 1 then _ else _) = ((if r = 1 then _ else _ : Nat) : Int)
    have e : (((a : Int) - 1) / (b : Int)).toNat = (a - 1) / b := by
      rw [show (a : Int) - 1 = ((a - 1 : Nat) : Int) by omega, ← Int.natCast_ediv, Int.toNat_natCast]
    by_cases h : r = 1
    · rw [if_pos (by omega), if_pos h, e, Int.natCast_emod, Int.natCast_pow]
      rfl
    · rw [if_neg (by omega), if_neg h]
theorem rootF_end {p q : Int} (h : 1 ≤ p) (hq : 0 ≤ q) : rootF p q 38 = (rootN p.toNat q.toNat : Int) := by
  obtain ⟨a, rfl⟩ : ∃ a : Nat, p = a := ⟨p.toNat, by omega⟩
  obtain ⟨b, rfl⟩ : ∃ b : Nat, q = b := ⟨q.toNat, by omega⟩
  rw [Int.toNat_natCast, Int.toNat_natCast, rootF_nat a b (by omega)]
  rfl
theorem rootF_bd {p q : Int} (h : 1 < p) : ∀ i, 0 ≤ rootF p q i ∧ rootF p q i < p
  | 0 => ⟨Int.zero_le_ofNat 1, h⟩
  | i + 1 => by
    unfold rootF
    split
    · exact emod_bd (by omega)
    · exact rootF_bd h i
def okRow (count least : Int) (x : Int × Int) : Bool := decide (least ≤ x.2) && decide (count < x.2)

/-! ### powers and products modulo p -/
theorem mm (a b p : Int) : a % p * (b % p) % p = a * b % p := (Int.mul_emod a b p).symm
theorem one_mod {p : Int} (hp : 1 < p) : (1 : Int) % p = 1 := Int.emod_eq_of_lt (by omega) hp
theorem pow_mod_q {p q e : Int} (q0 : 0 < q) (hp : 1 < p) (h : e ^ q.toNat % p = 1) {a b : Nat} (hab : (a : Int) % q = (b : Int) % q) : e ^ a % p = e ^ b % p := by
  obtain ⟨n, rfl⟩ : ∃ n : Nat, q = n := ⟨q.toNat, by omega⟩
  rw [Int.toNat_natCast] at h
  have red : ∀ c : Nat, e ^ c % p = e ^ (c % n) % p := fun c => by
    have e2 : e ^ (n * (c / n)) % p = 1 := by
      rw [Int.pow_mul, ← pow_emod, h, Int.one_pow, one_mod hp]
    calc e ^ c % p = e ^ (n * (c / n) + c % n) % p := by rw [Nat.div_add_mod]
      _ = e ^ (n * (c / n)) % p * (e ^ (c % n) % p) % p := by rw [Int.pow_add, mm]
      _ = e ^ (c % n) % p := by rw [e2, Int.one_mul, Int.emod_emod]
  rw [red a, red b]
  have e3 : a % n = b % n := by
    have := hab
    rw [← Int.natCast_emod, ← Int.natCast_emod] at this
    omega
  rw [e3]
theorem rz_add {p q e : Int} (q0 : 0 < q) (hp : 1 < p) (h : e ^ q.toNat % p = 1) (k j : Int) : rz p q e k * rz p q e j % p = rz p q e (k + j) := by
  unfold rz
  rw [mm, ← Int.pow_add]
  have b1 := emod_bd (a := k) q0
  have b2 := emod_bd (a := j) q0
  have b3 := emod_bd (a := k + j) q0
  refine pow_mod_q q0 hp h ?_
  rw [Int.natCast_add, Int.toNat_of_nonneg b1.1, Int.toNat_of_nonneg b2.1, Int.toNat_of_nonneg b3.1, Int.emod_emod, ← Int.add_emod]
theorem rz_root {p q e : Int} (hp : 1 < p) (h : e ^ q.toNat % p = 1) (k : Int) : rz p q e k ^ q.toNat % p = 1 := by
  unfold rz
  rw [pow_emod, ← Int.pow_mul, Nat.mul_comm, Int.pow_mul, ← pow_emod, h, Int.one_pow, one_mod hp]
theorem rz_mod (p q e k : Int) : rz p q e (k % q) = rz p q e k := by
  unfold rz
  rw [Int.emod_emod]
theorem mul_root {p : Int} {n : Nat} {a b : Int} (hp : 1 < p) (ha : a ^ n % p = 1) (hb : b ^ n % p = 1) : (a * b % p) ^ n % p = 1 := by
  rw [pow_emod, Int.mul_pow, Int.mul_emod, ha, hb, Int.one_mul, one_mod hp]
theorem prF_root {p q : Int} (hp : 1 < p) : ∀ (l : List (Int × Int)) (a : Int), a ^ q.toNat % p = 1 → (∀ x ∈ l, x.1 ^ q.toNat % p = 1) → prF p q a l ^ q.toNat % p = 1
  | [], a, h, _ => h
  | (e, k) :: r, a, h, hl => prF_root hp r _ (mul_root hp h (rz_root hp (hl (e, k) List.mem_cons_self) k)) fun x hx => hl x (List.mem_cons_of_mem _ hx)

/-! ### _law_group, over data -/
abbrev s__law_group : Stmt := top 27
theorem sc__law_group : FnScope ["pool", "count", "least", "pairs", "p", "q", "root", "number", "bases", "at", "step", "k", "exponent", "base", "pair"] ["pool", "count", "least"] (defScope s__law_group) := ⟨rfl, rfl, rfl, by decide +kernel, rfl, by decide +kernel, by decide +kernel⟩
section
variable {P : Program} {w : World} {K : PySem.W.Frag} {mg : Str → Option Value} {base : Heap} {ca : Nat → Addr}
def aspLGroup : ASp := fun ds P => ∃ count least : Int, ds = [.pool, .int count, .int least] ∧ 0 ≤ count ∧ count ≤ 1000 ∧ 0 < (tab.filter (okRow count least)).length ∧ ∀ p q bs, GG p q bs count least → P (lgD p q bs)
set_option maxHeartbeats 1000000 in
theorem ok_law_group {f : Addr} {fd : FuncData} (F : Fun K "_law_group" "_law_group" s__law_group f fd) (B : Blt mg) (C__law_draw : C8.Cal P w K mg base 1 "_law_draw" (toSp K ca aspDraw) []) (C__law_power : C8.Cal P w K mg base 1 "_law_power" (toSp K ca aspLPower) []) : FnOk P w K mg base CX0 2 f fd ["pool", "count", "least"] (toSp K ca aspLGroup) := by
  refine F.ok sc__law_group (fun vs H Q E h => sp_len (n := 3) (fun ds P a => by obtain ⟨_, _, rfl, _⟩ := a; rfl) h) (fun cdv A outer s H vs Q E hr h => ⟨_, (pss_cons (ps_set (i := 3) sc__law_group.nd rfl (.inl rfl) (pe_lst (pa_cons (pe_tupF (pa_cons pe_int (pa_cons pe_int pa_nil))) (pa_cons (pe_tupF (pa_cons pe_int (pa_cons pe_int pa_nil))) (pa_cons (pe_tupF (pa_cons pe_int (pa_cons pe_int pa_nil))) (pa_cons (pe_tupF (pa_cons pe_int (pa_cons pe_int pa_nil))) (pa_cons (pe_tupF (pa_cons pe_int (pa_cons pe_int pa_nil))) (pa_cons (pe_tupF (pa_cons pe_int (pa_cons pe_int pa_nil))) (pa_cons (pe_tupF (pa_cons pe_int (pa_cons pe_int pa_nil))) (pa_cons (pe_tupF (pa_cons pe_int (pa_cons pe_int pa_nil))) (pa_cons (pe_tupF (pa_cons pe_int (pa_cons pe_int pa_nil))) (pa_cons (pe_tupF (pa_cons pe_int (pa_cons pe_int pa_nil))) (pa_cons (pe_tupF (pa_cons pe_int (pa_cons pe_int pa_nil))) (pa_cons (pe_tupF (pa_cons pe_int (pa_cons pe_int pa_nil))) (pa_cons (pe_tupF (pa_cons pe_int (pa_cons pe_int pa_nil))) (pa_cons (pe_tupF (pa_cons pe_int (pa_cons pe_int pa_nil))) pa_nil))))))))))))))))
      (pss_cons (ps_setLc (i := 3) (own := [("pair", 14)]) (g := gName 14) rfl sc__law_group.nd rfl rfl (sw_true rfl rfl rfl (by decide +kernel)) (kpil (K := K) rfl (pv 3)) (blkOk_by (N := ["pool", "count", "least", "pairs", "p", "q", "root", "number", "bases", "at", "step", "k", "exponent", "base", "pair"]) (sc := defScope s__law_group) (by decide +kernel))
        (fun _ _ _ _ _ => (pg_name (i := 14) sc__law_group.nd rfl (.inl rfl))) (fun _ _ _ _ _ => pts_one (PW.pt (pw_and (pt_cmpR op_ge (pe_ix (kixs (K := K) rfl) (pv 14) pe_int (fun _ _ => rfl)) (pv 2) (nomark _)) (pw_and1 (pt_cmpR op_gt (pe_ix (kixs (K := K) rfl) (pv 14) pe_int (fun _ _ => rfl)) (pv 1) (nomark _))))))
        (fun _ _ _ _ _ => (pv 14)))
      (pss_cons (ps_asg (pe_ix (kixs (K := K) rfl) (pv 3) (C8.pe_c C__law_draw hr (by omega) rfl (pa_cons (pv 0) (pa_cons (pe_callB (klen (K := K) rfl) (by rfl) B.len bt_len (pa_cons (pv 3) pa_nil)) pa_nil))) (fun _ _ => rfl)) (kgtup (K := K) (n := 2) rfl rfl (pgs_cons (pg_name (i := 4) sc__law_group.nd rfl (.inl rfl)) (pgs_cons (pg_name (i := 5) sc__law_group.nd rfl (.inl rfl)) pgs_nil))))
      (pss_cons (ps_set (i := 6) sc__law_group.nd rfl (.inl rfl) pe_int)
      (pss_cons (ps_for PassesOwn.never rfl (pi_range2 rfl B.range (pa_cons pe_int (pa_cons pe_int pa_nil))) (pg_name (i := 7) sc__law_group.nd rfl (.inl rfl))
      (pss_one (ps_if (pt_cmpR op_eq (pv 6) pe_int (nomark _)) (pss_one (ps_set (i := 6) sc__law_group.nd rfl (.inl rfl) (C8.pe_c C__law_power hr (by omega) rfl (pa_cons (pv 7) (pa_cons (pe_op op_fdiv (pe_op op_sub (pv 4) pe_int) (pv 5)) (pa_cons (pv 4) pa_nil)))))) pss_nil)))
      (pss_cons (ps_set (i := 8) sc__law_group.nd rfl (.inl rfl) (pe_lst pa_nil))
      (pss_cons (ps_set (i := 9) sc__law_group.nd rfl (.inl rfl) (C8.pe_c C__law_draw hr (by omega) rfl (pa_cons (pv 0) (pa_cons (pe_op op_sub (pv 5) pe_int) pa_nil))))
      (pss_cons (ps_set (i := 10) sc__law_group.nd rfl (.inl rfl) (pe_op op_add pe_int (C8.pe_c C__law_draw hr (by omega) rfl (pa_cons (pv 0) (pa_cons (pe_op op_sub (pv 5) pe_int) pa_nil)))))
      (pss_cons (ps_for PassesOwn.never rfl (pi_range1 rfl B.range (pa_cons (pe_op op_sub (pv 5) pe_int) pa_nil)) (pg_name (i := 11) sc__law_group.nd rfl (.inl rfl))
      (pss_one (ps_if (pt_cmpR op_lt (pe_callB (klen (K := K) rfl) (by rfl) B.len bt_len (pa_cons (pv 8) pa_nil)) (pv 1) (nomark _)) (pss_cons (ps_set (i := 12) sc__law_group.nd rfl (.inl rfl) (pe_op op_add pe_int (pe_op op_mod (pe_callTy call_int1 (by rfl) B.int bt_int (pa_cons (pe_op op_add (pv 9) (pe_op op_mul (pv 11) (pv 10))) pa_nil)) (pe_op op_sub (pv 5) pe_int))))
      (pss_cons (ps_set (i := 13) sc__law_group.nd rfl (.inl rfl) (C8.pe_c C__law_power hr (by omega) rfl (pa_cons (pv 6) (pa_cons (pv 12) (pa_cons (pv 4) pa_nil)))))
      (pss_one (ps_if (pt_cmpR (knin (K := K) rfl) (pv 13) (pv 8) rfl) (pss_one (ps_expr (pe_bm PySem.F.plainAttrs_list PySem.F.slot_list_append PySem.F.type_list_append mt_append (pv 8) (pa_cons (pv 13) pa_nil)))) pss_nil)))) pss_nil)))
      (pss_cons (ps_for PassesOwn.never rfl (pi_range2 rfl B.range (pa_cons pe_int (pa_cons (pv 5) pa_nil))) (pg_name (i := 12) sc__law_group.nd rfl (.inl rfl))
      (pss_cons (ps_set (i := 13) sc__law_group.nd rfl (.inl rfl) (C8.pe_c C__law_power hr (by omega) rfl (pa_cons (pv 6) (pa_cons (pv 12) (pa_cons (pv 4) pa_nil)))))
      (pss_one (ps_if (PW.pt (pw_and (pt_cmpR (knin (K := K) rfl) (pv 13) (pv 8) rfl) (pw_and1 (pt_cmpR op_lt (pe_callB (klen (K := K) rfl) (by rfl) B.len bt_len (pa_cons (pv 8) pa_nil)) (pv 1) (nomark _))))) (pss_one (ps_expr (pe_bm PySem.F.plainAttrs_list PySem.F.slot_list_append PySem.F.type_list_append mt_append (pv 8) (pa_cons (pv 13) pa_nil)))) pss_nil))))
      (pss_one (ps_ret (pe_tupF (pa_cons (pv 4) (pa_cons (pv 5) (pa_cons (pv 8) pa_nil)))))))))))))))),
    fn_run h (fun po => (s_seq (s_set fun _ => (a_fz (a_lst (a_cons (a_tup (a_cons a_int (a_cons a_int a_nil))) (a_cons (a_tup (a_cons a_int (a_cons a_int a_nil))) (a_cons (a_tup (a_cons a_int (a_cons a_int a_nil))) (a_cons (a_tup (a_cons a_int (a_cons a_int a_nil))) (a_cons (a_tup (a_cons a_int (a_cons a_int a_nil))) (a_cons (a_tup (a_cons a_int (a_cons a_int a_nil))) (a_cons (a_tup (a_cons a_int (a_cons a_int a_nil))) (a_cons (a_tup (a_cons a_int (a_cons a_int a_nil))) (a_cons (a_tup (a_cons a_int (a_cons a_int a_nil))) (a_cons (a_tup (a_cons a_int (a_cons a_int a_nil))) (a_cons (a_tup (a_cons a_int (a_cons a_int a_nil))) (a_cons (a_tup (a_cons a_int (a_cons a_int a_nil))) (a_cons (a_tup (a_cons a_int (a_cons a_int a_nil))) (a_cons (a_tup (a_cons a_int (a_cons a_int a_nil))) a_nil)))))))))))))))))
      (s_seq (s_set fun _ => (a_fz (a_lc (vs := [14]) (i_list a_var) (g_name (by decide)) (a_and (a_test (a_op pst_rv rok_B0 (a_op pst_pk rok_ix (a_pk a_var) a_int) a_var)) (a_test (a_op pst_rv rok_B0 (a_op pst_pk rok_ix (a_pk a_var) a_int) a_var))) a_var)))
      (s_seq (s_asg (vs := [4, 5]) (fun _ => (a_op pst_pk rok_ix (a_pk a_var) (a_call (a_cons a_var (a_cons (a_b1 u_len (a_pk a_var)) a_nil))))) (fun _ => (g_tup (g_cons (g_name (by decide)) (g_cons (g_name (by decide)) g_nil tot_name) tot_name))))
      (s_seq (s_set fun _ => a_int)
      (s_seq (s_for (vs := [7]) (fun _ => (i_ran2 (a_cons a_int (a_cons a_int a_nil)))) (fun _ => (g_name (by decide)))
      (s_if (fun _ => (a_test (a_op pst_rv rok_eq a_var a_int))) (s_set fun _ => (a_call (a_cons a_var (a_cons (a_op pst_rv rok_I (a_op pst_rv rok_I0 a_var a_int) a_var) (a_cons a_var a_nil))))) s_next))
      (s_seq (s_setO fun _ => (a_lst a_nil))
      (s_seq (s_set fun _ => (a_call (a_cons a_var (a_cons (a_op pst_rv rok_I0 a_var a_int) a_nil))))
      (s_seq (s_set fun _ => (a_op pst_rv rok_I0 a_int (a_call (a_cons a_var (a_cons (a_op pst_rv rok_I0 a_var a_int) a_nil)))))
      (s_seq (s_for (vs := [11]) (fun _ => (i_ran1 (a_cons (a_op pst_rv rok_I0 a_var a_int) a_nil))) (fun _ => (g_name (by decide)))
      (s_if (fun _ => (a_test (a_op pst_rv rok_B0 (a_b1 u_len a_peek) a_var))) (s_seq (s_set fun _ => (a_op pst_rv rok_I0 a_int (a_op pst_rv rok_I (a_b1 u_int (a_op pst_rv rok_I0 a_var (a_op pst_rv rok_I a_var a_var))) (a_op pst_rv rok_I0 a_var a_int))))
      (s_seq (s_set fun _ => (a_call (a_cons a_var (a_cons a_var (a_cons a_var a_nil)))))
      (s_if (fun _ => (a_test (a_op pst_rv rok_in a_var a_peek))) (s_app fun _ => a_var) s_next))) s_next))
      (s_seq (s_for (vs := [12]) (fun _ => (i_ran2 (a_cons a_int (a_cons a_var a_nil)))) (fun _ => (g_name (by decide)))
      (s_seq (s_set fun _ => (a_call (a_cons a_var (a_cons a_var (a_cons a_var a_nil)))))
      (s_if (fun _ => (a_and (a_test (a_op pst_rv rok_in a_var a_peek)) (a_test (a_op pst_rv rok_B0 (a_b1 u_len a_peek) a_var)))) (s_app fun _ => a_var) s_next)))
      (s_fz (i := 8) (s_ret fun _ => (a_tup (a_cons a_var (a_cons a_var (a_cons a_var a_nil))))))))))))))))) (fun ds P a => by obtain ⟨_, _, rfl, _⟩ := a; exact Nat.le_of_ble_eq_true rfl) ?_⟩)
  rintro ds P ⟨count, least, rfl, n0, n1, hf, hp⟩
  walk_at "dd"
  refine ⟨by decide, ?_⟩
  refine lcA_filL (f := prT) (xs := tabI) prT (okRow count least) (fun x hx Q q1 q2 => ?_) ?_
  · unfold prT
    walk_at "dd"
    refine twoD (fun c1 => twoD (fun c2 => ?_) (fun c2 => ?_)) (fun c1 => ?_)
    · exact q1 (by unfold okRow; rw [decide_eq_true c1, decide_eq_true c2]; rfl)
    · exact q2 (by unfold okRow; rw [decide_eq_false c2, Bool.and_false])
    · exact q2 (by unfold okRow; rw [decide_eq_false c1, Bool.false_and])
  rw [← tab_eq]
  have hfm : ∀ x ∈ tab.filter (okRow count least), x ∈ tab ∧ least ≤ x.2 ∧ count < x.2 := fun x hx => by
    obtain ⟨h1, h2⟩ := List.mem_filter.mp hx
    unfold okRow at h2
    rw [Bool.and_eq_true, decide_eq_true_eq, decide_eq_true_eq] at h2
    exact ⟨h1, h2⟩
  have hfl : (tab.filter (okRow count least)).length ≤ 20 := Nat.le_trans (List.length_filter_le _ _) (Nat.le_of_ble_eq_true rfl)
  generalize tab.filter (okRow count least) = rows at hf hfm hfl ⊢
  refine ⟨_, rfl, by rw [List.length_map]; omega, by rw [List.length_map]; omega, fun v v0 v1 => ?_⟩
  rw [List.length_map] at v1
  obtain ⟨⟨p, q⟩, hpq⟩ : ∃ x, rows[v.toNat]? = some x := ⟨_, List.getElem?_eq_getElem (show v.toNat < rows.length by omega)⟩
  rw [kIx_l, atD (j := v.toNat) (v := prT (p, q)) (by omega) (by rw [List.getElem?_map, hpq]; rfl)]
  obtain ⟨hmt, hok1, hok2⟩ := hfm _ (List.mem_of_getElem? hpq)
  have row := row_of hmt
  have p3 := row.p3
  have pm := row.pm
  have q3 := row.q3
  have qm := row.qm
  have dv0 : 0 ≤ (p - 1) / q := Int.ediv_nonneg (by omega) (by omega)
  have dv1 : (p - 1) / q ≤ p - 1 := Int.ediv_le_self _ (by omega)
  generalize Dat.lst (rows.map prT) = RW
  unfold prT
  walk_at "dd"
  refine ⟨⟨by omega, by omega, by omega, by omega⟩, ?_⟩
  refine forA_ran (n := 38) (fun i env => ∃ y7, env = [.d .pool, .d (.int count), .d (.int least), .d RW, .d (.int p), .d (.int q), .d (.int (rootF p q i)), y7, .u, .u, .u, .u, .u, .u, .u]) ⟨.u, rfl⟩ ?_ ?_
  · rintro i env hi ⟨y7, rfl⟩ N hN
    walk_at "dd"
    refine twoD (fun c1 => ?_) (fun c1 => ?_)
    · refine ⟨⟨by omega, by omega⟩, ?_⟩
      refine ⟨_, _, _, rfl, by omega, by omega, by omega, dv0, hN _ ⟨.d (.int (2 + (i : Int))), ?_⟩⟩
      rw [show rootF p q (i + 1) = (2 + i : Int) ^ ((p - 1) / q).toNat % p by show (if _ then _ else _) = _; rw [if_pos c1]]
    · refine hN _ ⟨.d (.int (2 + (i : Int))), ?_⟩
      rw [show rootF p q (i + 1) = rootF p q i by show (if _ then _ else _) = _; rw [if_neg c1]]
  rintro env ⟨y7, rfl⟩
  rw [rootF_end (by omega) (by omega)]
  have r1 := row.r1
  have rp := row.rp
  generalize hR : ((rootN p.toNat q.toNat : Nat) : Int) = R at row r1 rp ⊢
  walk_at "dd"
  refine ⟨_, rfl, by omega, by omega, fun at' a0 a1 => ⟨_, rfl, by omega, by omega, fun st s0 s1 => ?_⟩⟩
  walk_at "dd"
  refine ⟨by omega, by omega, ?_⟩
  have GB : ∀ (ns : List Int) (e : Int), 1 ≤ e → e < q → (∀ b ∈ ns, ∃ e : Nat, 1 ≤ e ∧ (e : Int) < q ∧ b = R ^ e % p) → ∀ b ∈ ns ++ [R ^ e.toNat % p], ∃ e : Nat, 1 ≤ e ∧ (e : Int) < q ∧ b = R ^ e % p := fun ns e e1 e2 h b hb => by
    rcases List.mem_append.mp hb with hb | hb
    · exact h b hb
    · exact ⟨e.toNat, by omega, by omega, List.mem_singleton.mp hb⟩
  have ND : ∀ (ns : List Int) (x : Int), ns.Nodup → x ∉ ns → (ns ++ [x]).Nodup := fun ns x h n => List.nodup_append.mpr ⟨h, by simp, fun a ha b hb => by rw [List.mem_singleton.mp hb]; intro e; subst e; exact n ha⟩
  refine forA_ran (fun i env => ∃ ns y11 y12 y13, env = [.d .pool, .d (.int count), .d (.int least), .d RW, .d (.int p), .d (.int q), .d (.int R), y7, .o (ns.map Dat.int), .d (.int at'), .d (.int (1 + st)), y11, y12, y13, .u] ∧ ns.Nodup ∧ (ns.length : Int) ≤ count ∧ ∀ b ∈ ns, ∃ e : Nat, 1 ≤ e ∧ (e : Int) < q ∧ b = R ^ e % p) ⟨[], _, _, _, rfl, List.nodup_nil, n0, fun _ h => nomatch h⟩ ?_ ?_
  · rintro i env hi ⟨ns, y11, y12, y13, rfl, nd, ln, po⟩ N hN
    walk_at "dd"
    rw [List.length_map]
    refine twoD (fun c1 => ?_) (fun c1 => hN _ ⟨ns, _, _, _, rfl, nd, ln, po⟩)
    have bm := emod_bd (a := at' + (0 + (i : Int)) * (1 + st)) (m := q - 1) (by omega)
    refine ⟨.inl ⟨by omega, by omega⟩, ?_⟩
    refine ⟨by omega, ?_⟩
    generalize (at' + (0 + (i : Int)) * (1 + st)) % (q - 1) = ex at bm ⊢
    refine ⟨_, _, _, rfl, by omega, by omega, by omega, by omega, ?_⟩
    refine kIn_i ?_
    walk_at "dd"
    refine twoN (fun c2 => ?_) (fun c2 => hN _ ⟨ns, _, _, _, rfl, nd, ln, po⟩)
    refine ⟨by omega, hN _ ⟨ns ++ [R ^ (1 + ex).toNat % p], .d (.int (0 + (i : Int))), .d (.int (1 + ex)), .d (.int (R ^ (1 + ex).toNat % p)), ?_, ND _ _ nd c2, ?_, GB ns _ (by omega) (by omega) po⟩⟩
    · rw [List.map_append]
      rfl
    · rw [List.length_append]
      simp only [List.length_cons, List.length_nil]
      omega
  · rintro env ⟨ns, y11, y12, y13, rfl, nd, ln, po⟩
    walk_at "dd"
    refine ⟨⟨by omega, by omega, by omega, by omega⟩, ?_⟩
    refine forA_ran (fun i env => ∃ ns y12 y13, env = [.d .pool, .d (.int count), .d (.int least), .d RW, .d (.int p), .d (.int q), .d (.int R), y7, .o (ns.map Dat.int), .d (.int at'), .d (.int (1 + st)), y11, y12, y13, .u] ∧ ns.Nodup ∧ (ns.length : Int) ≤ count ∧ (∀ b ∈ ns, ∃ e : Nat, 1 ≤ e ∧ (e : Int) < q ∧ b = R ^ e % p) ∧ ((ns.length : Int) < count → ∀ e : Nat, 1 ≤ e → e < 1 + i → R ^ e % p ∈ ns)) ⟨ns, _, _, rfl, nd, ln, po, fun _ e e1 e2 => by omega⟩ ?_ ?_
    · rintro i env hi ⟨ns, y12, y13, rfl, nd, ln, po, al⟩ N hN
      have i2 : (1 : Int) + i < q := by omega
      have i3 : (1 + (i : Int)).toNat = 1 + i := by omega
      walk_at "dd"
      have skip : (R ^ (1 + (i : Int)).toNat % p ∈ ns ∨ ¬ (ns.length : Int) < count) → ((ns.length : Int) < count → ∀ e : Nat, 1 ≤ e → e < 1 + (i + 1) → R ^ e % p ∈ ns) := fun h hl e e1 e2 => by
        by_cases he : e < 1 + i
        · exact al hl e e1 he
        · have : e = 1 + i := by omega
          subst this
          rw [i3] at h
          exact h.resolve_right (fun z => z hl)
      refine ⟨_, _, _, rfl, by omega, by omega, by omega, by omega, ?_⟩
      refine kIn_i ?_
      walk_at "dd"
      rw [List.length_map]
      refine twoN (fun c2 => ?_) (fun c2 => hN _ ⟨ns, _, _, rfl, nd, ln, po, skip (.inl c2)⟩)
      refine twoD (fun c1 => ?_) (fun c1 => hN _ ⟨ns, _, _, rfl, nd, ln, po, skip (.inr c1)⟩)
      refine ⟨by omega, hN _ ⟨ns ++ [R ^ (1 + (i : Int)).toNat % p], .d (.int (1 + (i : Int))), .d (.int (R ^ (1 + (i : Int)).toNat % p)), ?_, ND _ _ nd c2, ?_, GB ns _ (by omega) i2 po, fun hl e e1 e2 => ?_⟩⟩
      · rw [List.map_append]
        rfl
      · rw [List.length_append]
        simp only [List.length_cons, List.length_nil]
        omega
      · by_cases he : e < 1 + i
        · exact List.mem_append_left _ (al c1 e e1 he)
        · have : e = 1 + i := by omega
          subst this
          rw [i3]
          exact List.mem_append_right _ (List.mem_singleton.mpr rfl)
    · rintro env ⟨ns, y12, y13, rfl, nd, ln, po, al⟩
      have full : (ns.length : Int) = count := by
        refine Classical.byContradiction fun hne => ?_
        have hl : (ns.length : Int) < count := by omega
        have al' := al hl
        have sub : ((List.range (q.toNat - 1)).map fun e => R ^ (e + 1) % p).length ≤ ns.length := by
          refine nodup_le ?_ fun x hx => ?_
          · refine List.pairwise_map.mpr (List.Pairwise.imp_of_mem (fun {a b} ha hb hab => ?_) List.pairwise_lt_range)
            have := List.mem_range.mp hb
            exact row.inj (show a + 1 < b + 1 by omega) (by omega)
          · obtain ⟨e, he, rfl⟩ := List.mem_map.mp hx
            have := List.mem_range.mp he
            exact al' (e + 1) (by omega) (by omega)
        rw [List.length_map, List.length_range] at sub
        omega
      walk_at "dd"
      exact hp p q ns ⟨hmt, hok1, hok2, full, nd, fun b hb => by
        obtain ⟨e, e1, e2, e3⟩ := po b hb
        exact ⟨e, e1, e2, by rw [hR]; exact e3⟩⟩
end

/-! ### displays with a star, slices of a list or a tuple -/
theorem kstar {X : Cx} {K : PySem.W.Frag} (hK : X.K = K) {e : Expr} {es : List Expr} {p : Pos} {te : TE} {t : TA} (he : PE X e te) (hr : PA X es t) (hs : starEach (.Starred e p :: es) X.env = (true, eval e X.env) :: starEach es X.env := by rfl) : PA X (.Starred e p :: es) (StX.tStar K te t) := by
  subst hK
  exact StX.pa_star he hr hs
/-- arguments, as many as there are -/
structure AArs (W : Wd) (H0 : Hp) (ta : TA) (aa : AFr) : Prop where
  run : ∀ (σ : L2.St) (env : List Sl) (F : Addr → Prop) (H : Hp) (Q : List V → Hp → Prop) (P : List Dat → Prop), Okk W F H → Mt W H0 F H σ env → aa env P →
    (∀ ds F' H' vs, P ds → Ext W F H F' H' → RvAll W F' H' vs ds → Q vs H') → ta σ H Q
def aStar (ea : AEx) (er : AFr) : AFr := fun env P => ea env fun x => sQ x fun xs => er env fun ys => P (xs ++ ys)
def aSz (aa : AFr) : AFr := fun env P => aa env fun ds => ds.length ≤ 100000 ∧ P ds
section
variable {W : Wd} {H0 : Hp} {te ta tb : TE} {ae ea eb : AEx}
theorem a_nilS : AArs W H0 tNil aNil := ⟨fun _ _ F H _ _ ok _ h k => k [] F H [] h (.refl ok) .nil⟩
theorem a_consS {tr : TA} {er : AFr} (ha : AExp W H0 ta ea) (hr : AArs W H0 tr er) : AArs W H0 (tCons ta tr) (aCons ea er) :=
  ⟨fun σ env F H Q P ok m q k => ha.run σ env F H _ _ ok m q fun d F1 H1 v p1 x1 r1 => hr.run σ env F1 H1 _ _ x1.ok (m.ext ok x1) p1 fun ds F2 H2 vs p2 x2 r2 =>
    k (d :: ds) F2 H2 (v :: vs) p2 (x1.trans ok x2) (.cons (r1.sub (x2.sub x1.ok)) r2)⟩
theorem a_starS {tr : TA} {er : AFr} (ha : AEg Pk W H0 ta ea) (hr : AArs W H0 tr er) : AArs W H0 (StX.tStar W.K ta tr) (aStar ea er) :=
  ⟨fun σ env F H Q P ok m q k => ha.run σ env F H _ _ ok m q fun d F1 H1 v p1 x1 r1 => by
    obtain ⟨a, vs, xs, rfl, h, rr, p, _⟩ := r1.seq x1.ok p1
    refine ⟨a, vs, rfl, h.symm, hr.run σ env F1 H1 _ _ x1.ok (m.ext ok x1) p fun ds F2 H2 ws p2 x2 r2 => ?_⟩
    exact k (xs ++ ds) F2 H2 (vs ++ ws) p2 (x1.trans ok x2) ((rr.sub (x2.sub x1.ok)).append r2)⟩
theorem a_lstS {tr : TA} {aa : AFr} (h : AArs W H0 tr aa) : AFrs W H0 (tLst tr) (aSz aa) :=
  ⟨fun σ env F H Q P ok m q k => h.run σ env F H _ _ ok m q fun ds F1 H1 vs p1 x1 r1 => ⟨Nat.le_of_lt (len_size (by rw [r1.length]; exact p1.1)), fun a n => by
    have x2 : Ext W F1 H1 _ _ := Ext.lay (o := .lst vs) x1.ok n
    exact k ds _ _ a vs p1.2 (x1.trans ok x2) (x1.there ok n) (fun f => x1.ok.tr a f n) upd_same (r1.sub (x2.sub x1.ok))⟩⟩
theorem a_tupS {tr : TA} {aa : AFr} (h : AArs W H0 tr aa) : AExp W H0 (tTupF tr) (aTup (aSz aa)) :=
  ⟨fun σ env F H Q P ok m q k => h.run σ env F H _ _ ok m q fun ds F1 H1 vs p1 x1 r1 => ⟨Nat.le_of_lt (len_size (by rw [r1.length]; exact p1.1)), fun a o n tp => by
    have x2 : Ext W F1 H1 _ _ := Ext.new (o := o) x1.ok n
    exact k (.tup ds) _ _ _ p1.2 (x1.trans ok x2) (.tup ⟨.inr rfl, o, upd_same, tp⟩ (r1.sub (x2.sub x1.ok)))⟩⟩
/-- a slice of a list or of a tuple, by its kind -/
def rSlB (k : Bool) (K : PySem.W.Frag) : V → Option Int → Option Int → Hp → VK → Prop := match k with
  | true => rSlF K
  | false => rSlL K
theorem kslB (k : Bool) {X : Cx} {K : PySem.W.Frag} (hK : X.K = K) : SlR X (rSlB k K) := by
  cases k with
  | true => exact kslF hK
  | false => exact ksll hK
def aSlB (k : Bool) (ea : AEx) (al ah : AOp) : AEx := match k with
  | true => aSlT ea al ah
  | false => aFz (aSlF ea al ah)
theorem a_slB {k : Bool} {tl th : TO} {al ah : AOp} (ha : AExp W H0 te ea) (hl : AOpt W H0 tl al) (hh : AOpt W H0 th ah) : AExp W H0 (tSl (rSlB k W.K) te tl th) (aSlB k ea al ah) := by
  cases k with
  | true => exact a_slT ha hl hh
  | false => exact a_fz (a_slL (a_pk ha) hl hh)
theorem aSlB_eq {k : Bool} {al ah : AOp} {env : List Sl} {P : Dat → Prop} (h : ea env fun x => al env fun lo => ah env fun hi => kQ k x fun xs => P (sqD k (cutD xs lo hi))) : aSlB k ea al ah env P := by
  cases k with
  | true => exact h
  | false => exact h
end

local macro_rules | `(tactic| walk_at "be") => `(tactic| simp only [zRaise, bCallX, bFldC, zSetF, bMake2, bFrzO, coQ_o, isC_c, upE, upF, upT, bFz, bCel, b2, b2F, b1, b1F, bNil, bCons, bTup, bTest, bNot, bAnd, bOr, bAndV, bOrV, bNotV, bIf, bCall, bCallF, bCall2, bFrz, elB, bLc, bYes, zNext, zSeq, zIf, zAsg, zSetO, zRet, zRetN, zDrop, zPar, zApp, zFz, zAug, zFor, zAppC, zPutC, zPutO, dId, drf_l, drf_t, drf_i, drf_s, drf_b, drf_n, drf_c, drf_o, drc_l, ceQ_c, inQ_i, cQ_l, Sto.put_s, elA, sSeq, sNext, sIf, sAsg, sSetO, sRet, sRetN, sDrop, sPar, sFz, sApp, sAug, sFor, oQ2_o, dQ_d, dQ2_d, dQ2_o, dAt_0, dAt_s, aVar, aPeek, aC, aFz, a2, a2F, a1, a1F, aCons, aNil, aTup, aTest_eq, aNot, aAnd, aOr, bQ_bl, aAndV, aOrV, aNotV, aIf, aChain, kI_i, kI0_i, kEq_i, kEq_s, kEq_b, kFld_o, oQ_some, aCall, aMeth, aMake, iSeq, lQ_lst, tQ_tup, sQ_lst, sQ_tup, iRan, gA, gTu, gNil_n, gCons_c, aLc, wipeA, kLen, kTupOf, kQ_t, kQ_l, iZipA, iEnA, aSlF, aSlT, aoN, aoS, aRevT, aRevL, kMax2_i, kCatS_s, kCatT_t, kCatL_l, kInt_i, kNeg_i, true_and, aYes, iCons, iNil, iDrop, kIsO_o, two_t, two_f, kIx_l, kIx_t, atI_0, atI_1, atI_2, atI_3, Bool.false_eq_true, if_false, if_true, kStr_i, kIsT_non, kIsT_bl, kIsT_int, kIsT_str, kIsT_lst, kIsT_tup, kIsN_non, kIsN_bl, kIsN_int, kIsN_str, kIsN_lst, kIsN_tup, kIsN_obj, kEq_nn, String.reduceEq, decide_true, decide_false, Bool.or_false, Bool.false_or, Bool.true_or, Bool.or_true, Bool.and_true, Bool.true_and, Bool.and_false, Bool.false_and, Bool.not_true, Bool.not_false, reduceCtorEq,   List.map_cons, List.map_nil, List.cons_append, List.nil_append, List.length_cons, List.length_nil, Nat.reduceAdd, Nat.reduceSub, List.replicate_succ, List.replicate_zero, List.set_cons_zero, List.set_cons_succ, List.getElem?_cons_zero, List.getElem?_cons_succ])
local macro_rules | `(tactic| walk_at "bf") => `(tactic| simp only [zRaise, bCallX, bFldC, zSetF, bMake2, bFrzO, coQ_o, isC_c, upE, upF, upT, bFz, bCel, b2, b2F, b1, b1F, bNil, bCons, bTup, bTest, bNot, bAnd, bOr, bAndV, bOrV, bNotV, bIf, bCall, bCallF, bCall2, bFrz, elB, bLc, bYes, zNext, zIf, zAsg, zSetO, zRet, zRetN, zDrop, zPar, zApp, zFz, zAug, zFor, zAppC, zPutC, zPutO, dId, drf_l, drf_t, drf_i, drf_s, drf_b, drf_n, drf_c, drf_o, drc_l, ceQ_c, inQ_i, cQ_l, Sto.put_s, elA, sNext, sIf, sAsg, sSetO, sRet, sRetN, sDrop, sPar, sFz, sApp, sAug, sFor, oQ2_o, dQ_d, dQ2_d, dQ2_o, dAt_0, dAt_s, aVar, aPeek, aC, aFz, a2, a2F, a1, a1F, aCons, aNil, aTup, aTest_eq, aNot, aAnd, aOr, bQ_bl, aAndV, aOrV, aNotV, aIf, aChain, kI_i, kI0_i, kEq_i, kEq_s, kEq_b, kFld_o, oQ_some, aCall, aMeth, aMake, iSeq, lQ_lst, tQ_tup, sQ_lst, sQ_tup, iRan, gA, gTu, gNil_n, gCons_c, aLc, wipeA, kLen, kTupOf, kQ_t, kQ_l, iZipA, iEnA, aSlF, aSlT, aoN, aoS, aRevT, aRevL, kMax2_i, kCatS_s, kCatT_t, kCatL_l, kInt_i, kNeg_i, true_and, aYes, iCons, iNil, iDrop, kIsO_o, two_t, two_f, kIx_l, kIx_t, atI_0, atI_1, atI_2, atI_3, Bool.false_eq_true, if_false, if_true, kStr_i, kIsT_non, kIsT_bl, kIsT_int, kIsT_str, kIsT_lst, kIsT_tup, kIsN_non, kIsN_bl, kIsN_int, kIsN_str, kIsN_lst, kIsN_tup, kIsN_obj, kEq_nn, String.reduceEq, decide_true, decide_false, Bool.or_false, Bool.false_or, Bool.true_or, Bool.or_true, Bool.and_true, Bool.true_and, Bool.and_false, Bool.false_and, Bool.not_true, Bool.not_false, reduceCtorEq,   List.map_cons, List.map_nil, List.cons_append, List.nil_append, List.length_cons, List.length_nil, Nat.reduceAdd, Nat.reduceSub, List.replicate_succ, List.replicate_zero, List.set_cons_zero, List.set_cons_succ, List.getElem?_cons_zero, List.getElem?_cons_succ])

/-! ### groups that may be refused -/
abbrev s_BadGroup___init__ : Stmt := inClass (top 2) 0
theorem sc_BadGroup___init__ : FnScope ["self", "what"] ["self", "what"] (defScope s_BadGroup___init__) := ⟨rfl, rfl, rfl, by decide +kernel, rfl, by decide +kernel, by decide +kernel⟩
theorem ok_x_BadGroup {P : Program} {w : World} {K : PySem.W.Frag} {mg : Str → Option Value} {base : Heap} {C f : Addr} {fd : FuncData} (F : Fun K "__init__" "BadGroup.__init__" s_BadGroup___init__ f fd) (T : OexC K C) (hno : PySem.W.findIn K (.ref C) "what" = some none) : FnOk P w K mg base CX0 1 f fd ["self", "what"] (spXI K C "what") := by
  refine F.ok sc_BadGroup___init__ (fun vs H Q E h => by obtain ⟨a, v, rfl, _⟩ := h; rfl) (fun cdv A outer s H vs Q E hr h => ⟨_, pss_one (ps_ost (pv 0) (pv 1)), ?_⟩)
  obtain ⟨a, v, rfl, ha, q⟩ := h
  exact ⟨_, rfl, _, rfl, a, C, rfl, T, hno, .inl ⟨ha, fun dx h1 h2 => q dx h1 h2⟩⟩
section
variable {P : Program} {w : World} {K : PySem.W.Frag} {mg : Str → Option Value} {base : Heap} {ca : Nat → Addr}
def aspPrime : ASp := fun ds P => ∃ n : Int, ds = [.int n] ∧ n < 1073741824 ∧ ∀ b : Bool, (b = true ↔ Pr n) → P (.bl b)
theorem sp_prime {K : PySem.W.Frag} {ca : Nat → Addr} : ∀ vs H Q E, toSp K ca aspPrime vs H Q E → spIsPrime vs H Q E := fun vs H Q E ⟨po, F, ds, P, ok, r, ⟨n, ed, h1, hp⟩, k⟩ => by
  subst ed
  cases r with
  | cons a r =>
    cases r
    cases a
    exact ⟨n, rfl, h1, fun b hb => k _ F H _ (hp b hb) (.refl ok) (.bl b)⟩
def aspRoot : ASp := fun ds P => ∃ p q n : Int, ds = [.int p, .int q, .int n] ∧ 0 < q ∧ 0 < p ∧ p < 2147483648 ∧ ∀ b : Bool, (b = true ↔ El p q n) → P (.bl b)
theorem sp_root {K : PySem.W.Frag} {ca : Nat → Addr} : ∀ vs H Q E, toSp K ca aspRoot vs H Q E → spRoot vs H Q E := fun vs H Q E ⟨po, F, ds, P, ok, r, ⟨p, q, n, ed, h1, h2, h3, hp⟩, k⟩ => by
  subst ed
  cases r with
  | cons a r =>
    cases r with
    | cons b r =>
      cases r with
      | cons c r =>
        cases r
        cases a
        cases b
        cases c
        exact ⟨p, q, n, rfl, h1, h2, h3, fun b hb => k _ F H _ (hp b hb) (.refl ok) (.bl b)⟩
/-- what is wrong of p and q -/
def GP (p : Int) : Prop := 3 ≤ p ∧ p ≤ 1000000 ∧ Pr p
def GQ' (p q : Int) : Prop := Pr q ∧ (p - 1) % q = 0
def bspCheckPrimes : BSp := fun ds M X P => ∃ p q : Int, ds = [.int p, .int q] ∧ q < 1000000000 ∧ (GP p → GQ' p q → P .non M) ∧ (¬ GP p → X 10 [.str "p"] M) ∧ (GP p → ¬ GQ' p q → X 10 [.str "q"] M)
theorem ok_check_primesX {f : Addr} {fd : FuncData} (F : Fun K "_check_primes" "_check_primes" s__check_primes f fd) (G : Glb mg) (XM_BadGroup : XMk P w K mg base "BadGroup" (ca 10) "what") (C_is_prime : C8.Cal P w K mg base 1 "is_prime" (toSp K ca aspPrime) []) : FnOk P w K mg base (L2.CX P w) 3 f fd ["p", "q"] (toSp2 K ca bspCheckPrimes) := by
  refine F.okX sc__check_primes (fun vs H Q E h => sp_len2 (n := 2) (fun ds M X P a => by obtain ⟨_, _, rfl, _⟩ := a; rfl) h) (fun cdv A outer s H vs Q E hr h => ⟨_, (pss_cons (ps_if (PW.pt (pw_or (pt_not (pt_chain op_le op_le (pe_gint G.SMALLEST_P) (pv 0) (pe_gint G.LARGEST_P))) (pw_or1 (pt_not (pt_val (C8.pe_c C_is_prime hr (by omega) rfl (pa_cons (pv 0) pa_nil))))))) (pss_one (ps_raise rfl (takes_of rfl rfl rfl rfl) (pmk_x XM_BadGroup hr (by omega) rfl (pa_cons pe_str pa_nil)))) pss_nil)
      (pss_one (ps_if (PW.pt (pw_or (pt_cmpR op_lt (pv 1) pe_int (nomark _)) (pw_or (pt_cmpR op_ne (pe_op op_mod (pe_op op_sub (pv 0) pe_int) (pv 1)) pe_int (nomark _)) (pw_or1 (pt_not (pt_val (C8.pe_c C_is_prime hr (by omega) rfl (pa_cons (pv 1) pa_nil)))))))) (pss_one (ps_raise rfl (takes_of rfl rfl rfl rfl) (pmk_x XM_BadGroup hr (by omega) rfl (pa_cons pe_str pa_nil)))) pss_nil))),
    fn_run2 h (fun po => (z_seq (z_if (fun _ => (b_upT fun _ => (a_or (a_not (a_test (a_chain rok_B0 rok_B0 a_int a_var a_int))) (a_not (a_tb (a_call (a_cons a_var a_nil))))))) (z_raiseO rfl (fun _ => (b_upA fun _ => (a_cons a_str a_nil)))) z_next)
      (z_if (fun _ => (b_upT fun _ => (a_or (a_test (a_op pst_rv rok_B0 a_var a_int)) (a_or (a_test (a_op pst_rv rok_ne (a_op pst_rv rok_I (a_op pst_rv rok_I0 a_var a_int) a_var) a_int)) (a_not (a_tb (a_call (a_cons a_var a_nil)))))))) (z_raiseO rfl (fun _ => (b_upA fun _ => (a_cons a_str a_nil)))) z_next))) (fun ds M X P a => by obtain ⟨_, _, rfl, _⟩ := a; exact Nat.le_of_ble_eq_true rfl) ?_⟩)
  rintro ds M X P ⟨p, q, rfl, qb, h1, h2, h3⟩
  walk_at "be"
  refine twoD (fun p3 => ?_) (fun h => h2 fun g => h g.1)
  refine twoN (fun h => h2 fun g => h g.2.1) (fun pm => ?_)
  refine ⟨p, rfl, by omega, fun b hb => ?_⟩
  walk_at "be"
  cases b with
  | false => exact twoY rfl (h2 fun g => nomatch hb.mpr g.2.2)
  | true =>
  have gp : GP p := ⟨p3, pm, hb.mp rfl⟩
  refine twoZ rfl ?_
  refine twoD (fun h => h3 gp fun g => by have := g.1.1; omega) (fun q2 => ⟨by omega, ?_⟩)
  refine twoN (fun h => h3 gp fun g => h g.2) (fun dv => ?_)
  refine ⟨q, rfl, by omega, fun b hb => ?_⟩
  walk_at "be"
  cases b with
  | false => exact twoY rfl (h3 gp fun g => nomatch hb.mpr g.1)
  | true => exact twoZ rfl (h1 gp ⟨hb.mp rfl, dv⟩)
theorem forB_enum {α : Type} {f : α → Dat} {xs : List α} {g : ATg} {b : BSt} {D : BEnds} {env : List Sl} {M : Sto} (W : Nat → List Sl → Sto → Prop) (h0 : W 0 env M)
    (hs : ∀ i x env M, xs[i]? = some x → W i env M → ∀ N : List Sl → Sto → Prop, (∀ env' M', W (i + 1) env' M' → N env' M') → g (.tup [.int (i : Nat), f x]) env fun env2 => b { D with nx := N, ct := N, bk := D.nx } env2 M)
    (hd : ∀ env M, W xs.length env M → D.nx env M) : forB g b D (enumD 0 (xs.map f)) env M := by
  have gen : ∀ (ys : List α) (n : Nat) env M, n + ys.length = xs.length → (∀ j, ys[j]? = xs[n + j]?) → W n env M → forB g b D (enumD n (ys.map f)) env M := by
    intro ys
    induction ys with
    | nil =>
      intro n env M e _ w
      have e : n = xs.length := e
      subst e
      exact hd env M w
    | cons y ys ih =>
      intro n env M e h w
      have h0 : xs[n]? = some y := (h 0).symm
      refine hs n y env M h0 w (forB g b D (enumD (n + 1) (ys.map f))) fun env' M' w' => ih (n + 1) env' M' (by rw [List.length_cons] at e; omega) (fun j => ?_) w'
      have := h (j + 1)
      rw [show n + 1 + j = n + (j + 1) by omega, ← this]
      rfl
  exact gen xs 0 env M (Nat.zero_add _) (fun j => by rw [Nat.zero_add]) h0
theorem kIn_sq {n k : Bool} {x : Int} {xs : List Int} {P : Dat → Prop} (h : P (.bl (if n then !decide (x ∈ xs) else decide (x ∈ xs)))) : kIn n (.int x) (sqD k (xs.map .int)) P := by
  cases k with
  | true => exact (show kIn n (.int x) (.lst (xs.map .int)) P from kIn_i h)
  | false => exact kIn_i h
/-- the bases are right up to a place -/
def GBs (p q : Int) (bs : List Int) (k : Nat) : Prop := ∀ i b, i < k → bs[i]? = some b → b ≠ 1 ∧ El p q b ∧ b ∉ bs.take i
def bspCheckBasesK (kd : Bool) : BSp := fun ds M X P => ∃ (p q : Int) (bs : List Int), ds = [.int p, .int q, sqD kd (bs.map .int)] ∧ (0 < q ∧ 0 < p ∧ p < 2147483648 ∧ bs.length ≤ 10000) ∧ (2 ≤ bs.length → bs.length ≤ 12 → GBs p q bs bs.length → P .non M) ∧ (¬ (2 ≤ bs.length ∧ bs.length ≤ 12) → X 10 [.str "bases"] M) ∧
  (2 ≤ bs.length → bs.length ≤ 12 → ∀ k b, bs[k]? = some b → GBs p q bs k → ¬ (b ≠ 1 ∧ El p q b ∧ b ∉ bs.take k) → X 10 [.int (k : Nat)] M)
def bspCheckBases : BSp := fun ds M X P => ∃ kd, bspCheckBasesK kd ds M X P
theorem ok_check_basesX (k : Bool) {f : Addr} {fd : FuncData} (F : Fun K "_check_bases" "_check_bases" s__check_bases f fd) (B : Blt mg) (G : Glb mg) (XM_BadGroup : XMk P w K mg base "BadGroup" (ca 10) "what") (C__is_root : C8.Cal P w K mg base 2 "_is_root" (toSp K ca aspRoot) []) : FnOk P w K mg base (L2.CX P w) 4 f fd ["p", "q", "bases"] (toSp2 K ca (bspCheckBasesK k)) := by
  refine F.okX sc__check_bases (fun vs H Q E h => sp_len2 (n := 3) (fun ds M X P a => by obtain ⟨_, _, _, rfl, _⟩ := a; rfl) h) (fun cdv A outer s H vs Q E hr h => ⟨_, (pss_cons (ps_if (pt_not (pt_chain op_le op_le (pe_gint G.FEWEST_BASES) (pe_callB (klen (K := K) rfl) (by rfl) B.len bt_len (pa_cons (pv 2) pa_nil)) (pe_gint G.MOST_BASES))) (pss_one (ps_raise rfl (takes_of rfl rfl rfl rfl) (pmk_x XM_BadGroup hr (by omega) rfl (pa_cons pe_str pa_nil)))) pss_nil)
      (pss_one (ps_for (passes_of rfl) rfl (pi_enumF k (K := K) rfl (by rfl) B.enumerate (pa_cons (pv 2) pa_nil)) (kgtup (K := K) (n := 2) rfl rfl (pgs_cons (pg_name (i := 3) sc__check_bases.nd rfl (.inl rfl)) (pgs_cons (pg_name (i := 4) sc__check_bases.nd rfl (.inl rfl)) pgs_nil)))
      (pss_one (ps_if (PW.pt (pw_or (pt_cmpR op_eq (pv 4) pe_int (nomark _)) (pw_or (pt_not (pt_val (C8.pe_c C__is_root hr (by omega) rfl (pa_cons (pv 0) (pa_cons (pv 1) (pa_cons (pv 4) pa_nil)))))) (pw_or1 (pt_cmpR (kin (K := K) rfl) (pv 4) (pe_slice (kslB k (K := K) rfl) (pv 2) po_none (po_some (pv 3))) rfl))))) (pss_one (ps_raise rfl (takes_of rfl rfl rfl rfl) (pmk_x XM_BadGroup hr (by omega) rfl (pa_cons (pv 3) pa_nil)))) pss_nil))))),
    fn_run2 h (fun po => (z_seq (z_if (fun _ => (b_upT fun _ => (a_not (a_test (a_chain rok_B0 rok_B0 a_int (a_b1 u_len (a_pk a_var)) a_int))))) (z_raiseO rfl (fun _ => (b_upA fun _ => (a_cons a_str a_nil)))) z_next)
      (z_for (vs := [3, 4]) (fun _ => (b_upI fun _ => (i_enum (a_cons a_var a_nil)))) (fun _ => (g_tup (g_cons (g_name (by decide)) (g_cons (g_name (by decide)) g_nil tot_name) tot_name)))
      (z_if (fun _ => (b_upT fun _ => (a_or (a_test (a_op pst_rv rok_eq a_var a_int)) (a_or (a_not (a_tb (a_call (a_cons a_var (a_cons a_var (a_cons a_var a_nil)))))) (a_test (a_op pst_rv rok_in a_var (a_pk (a_slB a_var ao_none (ao_some a_var))))))))) (z_raiseO rfl (fun _ => (b_upA fun _ => (a_cons a_var a_nil)))) z_next)))) (fun ds M X P a => by obtain ⟨_, _, _, rfl, _⟩ := a; exact Nat.le_of_ble_eq_true rfl) ?_⟩)
  rintro ds M X P ⟨p, q, bs, rfl, ⟨q0, p0, p1, lb⟩, h1, h2, h3⟩
  walk_at "be"
  refine sQ_sq ?_
  rw [List.length_map]
  refine twoD (fun l2 => ?_) (fun h => h2 fun z => h (by omega))
  refine twoN (fun h => h2 fun z => h (by omega)) (fun lm => ?_)
  refine kQ_sq ?_
  refine forB_enum (fun j env M' => (∃ y3 y4, env = [.d (.int p), .d (.int q), .d (sqD k (bs.map .int)), y3, y4]) ∧ M' = M ∧ GBs p q bs j) ⟨⟨_, _, rfl⟩, rfl, fun i b h => absurd h (Nat.not_lt_zero i)⟩ ?_ ?_
  · rintro j b env M' hk ⟨⟨y3, y4, rfl⟩, rfl, inv⟩ N hN
    have bad := h3 (by omega) (by omega) j b hk inv
    have lk := (List.getElem?_eq_some_iff.mp hk).1
    walk_at "be"
    refine twoD (fun h => bad fun z => z.1 h) (fun n1 => ?_)
    refine ⟨p, q, b, rfl, q0, p0, p1, fun y hy => ?_⟩
    walk_at "be"
    cases y with
    | false => exact twoY rfl (bad fun z => nomatch hy.mpr z.2.1)
    | true =>
    have el := hy.mp rfl
    refine twoZ rfl ?_
    refine aSlB_eq ?_
    walk_at "be"
    refine kQ_sq ?_
    rw [cut_to, ← List.map_take]
    refine kIn_sq ?_
    walk_at "be"
    refine twoD (fun h => bad fun z => z.2.2 h) (fun hn => ?_)
    refine hN _ _ ⟨⟨_, _, rfl⟩, rfl, fun i c hi hc => ?_⟩
    by_cases e : i = j
    · subst e
      rw [hk] at hc
      cases hc
      exact ⟨n1, el, hn⟩
    · exact inv i c (by omega) hc
  · rintro env M' ⟨⟨y3, y4, rfl⟩, rfl, inv⟩
    exact h1 (by omega) (by omega) inv
theorem sp_ex2 {κ : Type} {K : PySem.W.Frag} {ca : Nat → Addr} {a : κ → BSp} {vs : List V} {H : Hp} {Q : VK} {E : XK} (h : toSp2 K ca (fun ds M X P => ∃ k, a k ds M X P) vs H Q E) : ∃ k, toSp2 K ca (a k) vs H Q E := by
  obtain ⟨po, F, M, ds, P, X, ok, r, ⟨k, a⟩, xo, z⟩ := h
  exact ⟨k, po, F, M, ds, P, X, ok, r, a, xo, z⟩
theorem fn_un2 {CX : CXT} {j : Nat} {f : Addr} {fd : FuncData} {ps : List Str} {κ : Type} {a : κ → BSp} (h : ∀ i, FnOk P w K mg base CX j f fd ps (toSp2 K ca (a i))) : FnOk P w K mg base CX j f fd ps (toSp2 K ca fun ds M X P => ∃ i, a i ds M X P) := by
  refine ⟨fun vs H Q E q => ?_, fun A outer s H cl vs us Q E rm e0 hb rv q => ?_⟩
  · obtain ⟨i, q⟩ := sp_ex2 q
    exact (h i).len vs H Q E q
  · obtain ⟨i, q⟩ := sp_ex2 q
    exact (h i).run A outer s H cl vs us Q E rm e0 hb rv q
theorem Sto.put_put {M : Sto} {a : Addr} {c d : Option Ce} : (M.put a c).put a d = M.put a d := by
  funext b
  unfold Sto.put
  by_cases h : b = a
  · rw [if_pos h, if_pos h]
  · rw [if_neg h, if_neg h, if_neg h]
theorem nodup_take : ∀ {bs : List Int}, (∀ i b, bs[i]? = some b → b ∉ bs.take i) → bs.Nodup := fun {bs} h => by
  refine List.nodup_iff_pairwise_ne.mpr (List.pairwise_iff_getElem.mpr fun i j hi hj lt e => ?_)
  have := h j bs[j] (List.getElem?_eq_getElem hj)
  refine this ?_
  rw [← e]
  exact List.mem_iff_getElem?.mpr ⟨i, by rw [List.getElem?_take_of_lt lt]; exact List.getElem?_eq_getElem hi⟩
theorem gok_of {p q : Int} {bs : List Int} (gp : GP p) (gq : GQ' p q) (l2 : 2 ≤ bs.length) (lm : bs.length ≤ 12) (gb : GBs p q bs bs.length) : GOk p q bs := by
  refine ⟨gp.1, gp.2.1, gp.2.2, gq.1, gq.2, l2, lm, fun b hb => ?_, nodup_take fun i b e => (gb i b (List.getElem?_eq_some_iff.mp e).1 e).2.2⟩
  obtain ⟨i, hi⟩ := List.mem_iff_getElem?.mp hb
  have := gb i b (List.getElem?_eq_some_iff.mp hi).1 hi
  exact ⟨this.1, this.2.1⟩
/-- a group is made, or refused -/
def bspGroupIK (k : Bool) : BSp := fun ds M X P => ∃ (x : Addr) (p q : Int) (bs : List Int), ds = [.cell x, .int p, .int q, sqD k (bs.map .int)] ∧ M x = some (.obj 0 []) ∧ (q < 1000000000 ∧ bs.length ≤ 10000) ∧ (GOk p q bs → P .non (M.put x (some (.obj 0 [.int p, .int q, .tup (bs.map .int)])))) ∧ (¬ GP p → X 10 [.str "p"] M) ∧ (GP p → ¬ GQ' p q → X 10 [.str "q"] M) ∧
  (GP p → GQ' p q → ¬ (2 ≤ bs.length ∧ bs.length ≤ 12) → X 10 [.str "bases"] M) ∧ (GP p → GQ' p q → 2 ≤ bs.length → bs.length ≤ 12 → ∀ i b, bs[i]? = some b → GBs p q bs i → ¬ (b ≠ 1 ∧ El p q b ∧ b ∉ bs.take i) → X 10 [.int (i : Nat)] M)
theorem ok_group_initX (k : Bool) {f : Addr} {fd : FuncData} (F : Fun K "__init__" "Group.__init__" s_Group___init__ f fd) (T0 : GT K (ca 0)) (B : Blt mg) (X__check_primes : CalX P w K mg base 3 "_check_primes" (toSp2 K ca bspCheckPrimes)) (X__check_bases : CalX P w K mg base 4 "_check_bases" (toSp2 K ca bspCheckBases)) :
    FnOk P w K mg base (L2.CX P w) 5 f fd ["self", "p", "q", "bases"] (toSpI2 K ca 0 (bspGroupIK k)) := by
  refine F.okX sc_Group___init__ (fun vs H Q E h => sp_lenI2 (n := 4) (fun ds M X P a => by obtain ⟨_, _, _, _, rfl, _⟩ := a; rfl) h) (fun cdv A outer s H vs Q E hr h => ⟨_, (pss_cons (ps_expr (by exact (pe_cX X__check_primes (takes_of rfl rfl rfl rfl) hr (by omega) rfl (pa_cons (pv 1) (pa_cons (pv 2) pa_nil)))))
      (pss_cons (ps_expr (by exact (pe_cX X__check_bases (takes_of rfl rfl rfl rfl) hr (by omega) rfl (pa_cons (pv 1) (pa_cons (pv 2) (pa_cons (pv 3) pa_nil))))))
      (pss_cons (ps_fld (pv 0) (pv 1) rfl)
      (pss_cons (ps_fld (pv 0) (pv 2) rfl)
      (pss_one (ps_fld (pv 0) (pe_callTy (ktupF (K := K) rfl) (by rfl) B.tuple bt_tuple (pa_cons (pv 3) pa_nil)) rfl)))))),
    fn_runI2 h (fun po => (z_seq (z_drop fun _ => (b_callX (b_upA fun _ => (a_cons a_var (a_cons a_var a_nil)))))
      (z_seq (z_drop fun _ => (b_callX (b_upA fun _ => (a_cons a_var (a_cons a_var (a_cons a_var a_nil))))))
      (z_seq (z_setF (c := 0) (i := 0) T0.cl T0.n_p rfl (by decide) (by decide) (fun _ => (b_up fun _ => a_var)) (fun _ => (b_up fun _ => a_var)))
      (z_seq (z_setF (c := 0) (i := 1) T0.cl T0.n_q rfl (by decide) (by decide) (fun _ => (b_up fun _ => a_var)) (fun _ => (b_up fun _ => a_var)))
      (z_setF (c := 0) (i := 2) T0.cl T0.n_bases rfl (by decide) (by decide) (fun _ => (b_up fun _ => a_var)) (fun _ => (b_up fun _ => (a_b1 u_tupOf (a_pk a_var)))))))))) (fun ds M X P a => by obtain ⟨_, _, _, _, rfl, _⟩ := a; exact Nat.le_of_ble_eq_true rfl) ?_⟩)
  rintro ds M X P ⟨x, p, q, bs, rfl, hM, ⟨qb, lb⟩, h1, h2, h3, h4, h5⟩
  walk_at "be"
  refine ⟨p, q, rfl, qb, fun gp gq => ?_, h2, h3⟩
  have q2 := gq.1.1
  have p3 := gp.1
  have pm := gp.2.1
  walk_at "be"
  refine ⟨k, p, q, bs, rfl, ⟨by omega, by omega, by omega, lb⟩, fun l2 lm gb => ?_, h4 gp gq, h5 gp gq⟩
  dsimp only
  rw [hM]
  refine ⟨rfl, Nat.zero_le _, Nat.le_refl _, sQ_sq ⟨Nat.le_refl _, ?_⟩⟩
  rw [Sto.put_put, Sto.put_put]
  exact h1 (gok_of gp gq l2 lm gb)
def bspGroupI : BSp := fun ds M X P => ∃ k, bspGroupIK k ds M X P
end

/-! ### groups: elements, logarithms, == -/
abbrev s_Group_is_element : Stmt := inClass (top 16) 2
theorem sc_Group_is_element : FnScope ["self", "number"] ["self", "number"] (defScope s_Group_is_element) := ⟨rfl, rfl, rfl, by decide +kernel, rfl, by decide +kernel, by decide +kernel⟩
abbrev s_Group_log : Stmt := inClass (top 16) 5
theorem sc_Group_log : FnScope ["self", "element", "reached", "exponent"] ["self", "element"] (defScope s_Group_log) := ⟨rfl, rfl, rfl, by decide +kernel, rfl, by decide +kernel, by decide +kernel⟩
abbrev s_Group___eq__ : Stmt := inClass (top 16) 1
theorem sc_Group___eq__ : FnScope ["self", "other"] ["self", "other"] (defScope s_Group___eq__) := ⟨rfl, rfl, rfl, by decide +kernel, rfl, by decide +kernel, by decide +kernel⟩
section
variable {P : Program} {w : World} {K : PySem.W.Frag} {mg : Str → Option Value} {base : Heap} {ca : Nat → Addr}
def aspIsEl : ASp := fun ds P => ∃ (p q n : Int) (bs : List Int), ds = [grpD p q bs, .int n] ∧ (0 < q ∧ 0 < p ∧ p < 2147483648) ∧ ∀ b : Bool, (b = true ↔ El p q n) → P (.bl b)
theorem ok_is_element {f : Addr} {fd : FuncData} (F : Fun K "is_element" "Group.is_element" s_Group_is_element f fd) (T0 : GT K (ca 0)) (C__is_root : C8.Cal P w K mg base 2 "_is_root" (toSp K ca aspRoot) []) : FnOk P w K mg base CX0 3 f fd ["self", "number"] (toSp K ca aspIsEl) := by
  refine F.ok sc_Group_is_element (fun vs H Q E h => sp_len (n := 2) (fun ds P a => by obtain ⟨_, _, _, _, rfl, _⟩ := a; rfl) h) (fun cdv A outer s H vs Q E hr h => ⟨_, (pss_one (ps_ret (C8.pe_c C__is_root hr (by omega) rfl (pa_cons (kfld (K := K) rfl (pv 0)) (pa_cons (kfld (K := K) rfl (pv 0)) (pa_cons (pv 1) pa_nil)))))),
    fn_run h (fun po => (s_ret fun _ => (a_call (a_cons (a_fld T0.cl T0.n_p (c := 0) (i := 0) rfl a_var) (a_cons (a_fld T0.cl T0.n_q (c := 0) (i := 1) rfl a_var) (a_cons a_var a_nil)))))) (fun ds P a => by obtain ⟨_, _, _, _, rfl, _⟩ := a; exact Nat.le_of_ble_eq_true rfl) ?_⟩)
  rintro ds P ⟨p, q, n, bs, rfl, ⟨q0, p0, p1⟩, hp⟩
  unfold grpD
  walk_at "dd"
  exact ⟨p, q, n, rfl, q0, p0, p1, hp⟩
/-- the first logarithm -/
def aspLog : ASp := fun ds P => ∃ (p q b0 e : Int) (bs : List Int), ds = [grpD p q (b0 :: bs), .int e] ∧ (0 ≤ q ∧ q < 1000000 ∧ 1 < p ∧ p < 2147483648 ∧ 0 ≤ b0 ∧ b0 < p) ∧ (∀ k : Nat, (k : Int) < q → b0 ^ k % p = e → (∀ j < k, b0 ^ j % p ≠ e) → P (.int (k : Nat))) ∧ ((∀ k : Nat, (k : Int) < q → b0 ^ k % p ≠ e) → P .non)
theorem ok_log {f : Addr} {fd : FuncData} (F : Fun K "log" "Group.log" s_Group_log f fd) (T0 : GT K (ca 0)) (B : Blt mg) : FnOk P w K mg base CX0 1 f fd ["self", "element"] (toSp K ca aspLog) := by
  refine F.ok sc_Group_log (fun vs H Q E h => sp_len (n := 2) (fun ds P a => by obtain ⟨_, _, _, _, _, rfl, _⟩ := a; rfl) h) (fun cdv A outer s H vs Q E hr h => ⟨_, (pss_cons (ps_set (i := 2) sc_Group_log.nd rfl (.inl rfl) pe_int)
      (pss_cons (ps_for PassesOwn.never rfl (pi_range1 rfl B.range (pa_cons (kfld (K := K) rfl (pv 0)) pa_nil)) (pg_name (i := 3) sc_Group_log.nd rfl (.inl rfl))
      (pss_cons (ps_if (pt_cmpR op_eq (pv 2) (pv 1) (nomark _)) (pss_one (ps_ret (pv 3))) pss_nil)
      (pss_one (ps_set (i := 2) sc_Group_log.nd rfl (.inl rfl) (pe_op op_mod (pe_op op_mul (pv 2) (pe_ix (kixs (K := K) rfl) (kfld (K := K) rfl (pv 0)) pe_int (fun _ _ => rfl))) (kfld (K := K) rfl (pv 0)))))))
      (pss_one (ps_ret pe_non)))),
    fn_run h (fun po => (s_seq (s_set fun _ => a_int)
      (s_seq (s_for (vs := [3]) (fun _ => (i_ran1 (a_cons (a_fld T0.cl T0.n_q (c := 0) (i := 1) rfl a_var) a_nil))) (fun _ => (g_name (by decide)))
      (s_seq (s_if (fun _ => (a_test (a_op pst_rv rok_eq a_var a_var))) (s_ret fun _ => a_var) s_next)
      (s_set fun _ => (a_op pst_rv rok_I (a_op pst_rv rok_I a_var (a_op pst_pk rok_ix (a_pk (a_fld T0.cl T0.n_bases (c := 0) (i := 2) rfl a_var)) a_int)) (a_fld T0.cl T0.n_p (c := 0) (i := 0) rfl a_var)))))
      (s_ret fun _ => a_non)))) (fun ds P a => by obtain ⟨_, _, _, _, _, rfl, _⟩ := a; exact Nat.le_of_ble_eq_true rfl) ?_⟩)
  rintro ds P ⟨p, q, b0, e, bs, rfl, ⟨q0, q1, p0, p1, b00, b01⟩, h1, h2⟩
  unfold grpD
  walk_at "dd"
  refine ⟨by omega, by omega, ?_⟩
  refine forA_ran (n := q.toNat) (fun k env => (∃ y3, env = [.d (.obj 0 [.int p, .int q, .tup (.int b0 :: bs.map .int)]), .d (.int e), .d (.int (b0 ^ k % p)), y3]) ∧ ∀ j < k, b0 ^ j % p ≠ e) ⟨⟨.u, by rw [Int.pow_zero, Int.emod_eq_of_lt (by omega) p0]⟩, fun j h => absurd h (Nat.not_lt_zero j)⟩ ?_ ?_
  · rintro k env hk ⟨⟨y3, rfl⟩, inv⟩ N hN
    walk_at "dd"
    have bd := emod_bd (a := b0 ^ k) (m := p) (by omega)
    refine twoD (fun h => ?_) (fun h => ⟨.inr ⟨by omega, by omega⟩, by omega, hN _ ⟨⟨.d (.int (0 + (k : Int))), ?_⟩, fun j hj => ?_⟩⟩)
    · rw [Int.zero_add]
      exact h1 k (by omega) h inv
    · rw [mul_emod_l, ← Int.pow_succ]
    · by_cases z : j = k
      · rw [z]
        exact h
      · exact inv j (by omega)
  · rintro env ⟨⟨y3, rfl⟩, inv⟩
    walk_at "dd"
    exact h2 fun k hk => inv k (by omega)
def aspGrEq : ASp := fun ds P => ∃ (p q p' q' : Int) (bs bs' : List Int), ds = [grpD p q bs, grpD p' q' bs'] ∧ ∀ b : Bool, (b = true ↔ p = p' ∧ q = q' ∧ bs = bs') → P (.bl b)
theorem ok_group_eq {f : Addr} {fd : FuncData} (F : Fun K "__eq__" "Group.__eq__" s_Group___eq__ f fd) (T0 : GT K (ca 0)) (I_Group : IsiC K (ca 0)) (G_Group : mg "Group" = some (.ref (ca 0))) (B : Blt mg) : FnOk P w K mg base CX0 1 f fd ["self", "other"] (toSp K ca aspGrEq) := by
  refine F.ok sc_Group___eq__ (fun vs H Q E h => sp_len (n := 2) (fun ds P a => by obtain ⟨_, _, _, _, _, _, rfl, _⟩ := a; rfl) h) (fun cdv A outer s H vs Q E hr h => ⟨_, (pss_one (ps_ret (pe_and (pe_callB (kisi (K := K) rfl) (by rfl) B.isinstance bt_isinstance (pa_cons (pv 1) (pa_cons (pe_glob (v := .ref _) rfl G_Group rfl) pa_nil))) (pe_and (pe_cmpR op_eq (kfld (K := K) rfl (pv 0)) (kfld (K := K) rfl (pv 1)) (nomark _)) (pe_and (pe_cmpR op_eq (kfld (K := K) rfl (pv 0)) (kfld (K := K) rfl (pv 1)) (nomark _)) (pe_one (pe_cmpR (keqd (K := K) rfl hr.units) (kfld (K := K) rfl (pv 0)) (kfld (K := K) rfl (pv 1)) (nomark _)))))))),
    fn_run h (fun po => (s_ret fun _ => (a_andV (a_isO I_Group a_var) (a_andV (a_op pst_rv rok_eq (a_fld T0.cl T0.n_p (c := 0) (i := 0) rfl a_var) (a_fld T0.cl T0.n_p (c := 0) (i := 0) rfl a_var)) (a_andV (a_op pst_rv rok_eq (a_fld T0.cl T0.n_q (c := 0) (i := 1) rfl a_var) (a_fld T0.cl T0.n_q (c := 0) (i := 1) rfl a_var)) (a_op pst_pk rok_eqD (a_pk (a_fld T0.cl T0.n_bases (c := 0) (i := 2) rfl a_var)) (a_pk (a_fld T0.cl T0.n_bases (c := 0) (i := 2) rfl a_var)))))))) (fun ds P a => by obtain ⟨_, _, _, _, _, _, rfl, _⟩ := a; exact Nat.le_of_ble_eq_true rfl) ?_⟩)
  rintro ds P ⟨p, q, p', q', bs, bs', rfl, hp⟩
  unfold grpD
  walk_at "dd"
  refine twoD (fun e1 => ?_) (fun h => hp _ ⟨fun z => (by cases z), fun z => absurd z.1 h⟩)
  refine twoD (fun e2 => ?_) (fun h => hp _ ⟨fun z => (by cases z), fun z => absurd z.2.1 h⟩)
  refine ⟨(okE_tup (okE_ints _ 0)).up (Nat.le_of_ble_eq_true rfl), (okE_tup (okE_ints _ 0)).up (Nat.le_of_ble_eq_true rfl), fun b hb => hp b ?_⟩
  rw [hb]
  exact ⟨fun z => ⟨e1, e2, ints_inj (Dat.tup.inj z)⟩, fun z => by rw [z.2.2]⟩
end

/-! ### what is wrong, by the law -/
abbrev s__law_prime : Stmt := top 28
theorem sc__law_prime : FnScope ["number", "divisor"] ["number"] (defScope s__law_prime) := ⟨rfl, rfl, rfl, by decide +kernel, rfl, by decide +kernel, by decide +kernel⟩
abbrev s__law_wrong : Stmt := top 29
theorem sc__law_wrong : FnScope ["p", "q", "bases", "k"] ["p", "q", "bases"] (defScope s__law_wrong) := ⟨rfl, rfl, rfl, by decide +kernel, rfl, by decide +kernel, by decide +kernel⟩
section
variable {P : Program} {w : World} {K : PySem.W.Frag} {mg : Str → Option Value} {base : Heap} {ca : Nat → Addr}
def aspLPrime : ASp := fun ds P => ∃ n : Int, ds = [.int n] ∧ n ≤ 1002000 ∧ ∀ b : Bool, (b = true ↔ Pr n) → P (.bl b)
theorem pr_small {n : Int} (h : n ≤ 1002000) (g : ∀ d : Int, 2 ≤ d → d < 1001 → d * d ≤ n → n % d ≠ 0) (p : 2 ≤ n) : Pr n := ⟨p, fun d h2 hd => by
  refine g d h2 (Int.lt_of_not_ge fun z => ?_) hd
  have := Int.mul_le_mul z z (by omega) (by omega)
  omega⟩
theorem ok_law_prime {f : Addr} {fd : FuncData} (F : Fun K "_law_prime" "_law_prime" s__law_prime f fd) (B : Blt mg) : FnOk P w K mg base CX0 1 f fd ["number"] (toSp K ca aspLPrime) := by
  refine F.ok sc__law_prime (fun vs H Q E h => sp_len (n := 1) (fun ds P a => by obtain ⟨_, rfl, _⟩ := a; rfl) h) (fun cdv A outer s H vs Q E hr h => ⟨_, (pss_cons (ps_if (pt_cmpR op_lt (pv 0) pe_int (nomark _)) (pss_one (ps_ret pe_bl)) pss_nil)
      (pss_cons (ps_for PassesOwn.never rfl (pi_range2 rfl B.range (pa_cons pe_int (pa_cons pe_int pa_nil))) (pg_name (i := 1) sc__law_prime.nd rfl (.inl rfl))
      (pss_one (ps_if (PW.pt (pw_and (pt_cmpR op_le (pe_op op_mul (pv 1) (pv 1)) (pv 0) (nomark _)) (pw_and1 (pt_cmpR op_eq (pe_op op_mod (pe_callTy call_int1 (by rfl) B.int bt_int (pa_cons (pv 0) pa_nil)) (pv 1)) pe_int (nomark _))))) (pss_one (ps_ret pe_bl)) pss_nil)))
      (pss_one (ps_ret pe_bl)))),
    fn_run h (fun po => (s_seq (s_if (fun _ => (a_test (a_op pst_rv rok_B0 a_var a_int))) (s_ret fun _ => a_bl) s_next)
      (s_seq (s_for (vs := [1]) (fun _ => (i_ran2 (a_cons a_int (a_cons a_int a_nil)))) (fun _ => (g_name (by decide)))
      (s_if (fun _ => (a_and (a_test (a_op pst_rv rok_B0 (a_op pst_rv rok_I a_var a_var) a_var)) (a_test (a_op pst_rv rok_eq (a_op pst_rv rok_I (a_b1 u_int a_var) a_var) a_int)))) (s_ret fun _ => a_bl) s_next))
      (s_ret fun _ => a_bl)))) (fun ds P a => by obtain ⟨_, rfl, _⟩ := a; exact Nat.le_of_ble_eq_true rfl) ?_⟩)
  rintro ds P ⟨n, rfl, hn, hp⟩
  walk_at "dd"
  refine twoD (fun h => hp _ ⟨fun z => (by cases z), fun z => by have := z.1; omega⟩) (fun h => ?_)
  refine ⟨⟨by omega, by omega, by omega, by omega⟩, ?_⟩
  refine forA_ran (n := 999) (fun k env => (∃ y1, env = [.d (.int n), y1]) ∧ ∀ d : Int, 2 ≤ d → d < 2 + (k : Int) → d * d ≤ n → n % d ≠ 0) ⟨⟨_, rfl⟩, fun d h1 h2 => by omega⟩ ?_ ?_
  · rintro k env hk ⟨⟨y1, rfl⟩, inv⟩ N hN
    walk_at "dd"
    refine ⟨.inr ⟨by omega, by omega⟩, ?_⟩
    have go : ((2 + (k : Int)) * (2 + (k : Int)) ≤ n → n % (2 + (k : Int)) ≠ 0) → N [.d (.int n), .d (.int (2 + (k : Int)))] := fun hh => hN _ ⟨⟨_, rfl⟩, fun d h1 h2 h3 => by
      by_cases e : d = 2 + (k : Int)
      · subst e
        exact hh h3
      · exact inv d h1 (by omega) h3⟩
    refine twoD (fun c1 => ⟨by omega, twoD (fun c2 => hp _ ⟨fun z => (by cases z), fun z => absurd c2 (z.2 _ (by omega) c1)⟩) (fun c2 => go fun _ => c2)⟩) (fun c1 => go fun z => absurd z c1)
  · rintro env ⟨⟨y1, rfl⟩, inv⟩
    walk_at "dd"
    exact hp _ ⟨fun _ => pr_small hn (fun d h1 h2 => inv d h1 (by omega)) (by omega), fun _ => rfl⟩
def aspWrong : ASp := fun ds P => ∃ (p q : Int) (bs : List Int), ds = [.int p, .int q, .lst (bs.map .int)] ∧ (q ≤ 1002000 ∧ bs.length ≤ 10000) ∧ (GOk p q bs → P .non) ∧ (¬ GP p → P (.str "p")) ∧ (GP p → ¬ GQ' p q → P (.str "q")) ∧
  (GP p → GQ' p q → ¬ (2 ≤ bs.length ∧ bs.length ≤ 12) → P (.str "bases")) ∧ (GP p → GQ' p q → 2 ≤ bs.length → bs.length ≤ 12 → ∀ i b, bs[i]? = some b → GBs p q bs i → ¬ (b ≠ 1 ∧ El p q b ∧ b ∉ bs.take i) → P (.int (i : Nat)))
theorem ok_law_wrong {f : Addr} {fd : FuncData} (F : Fun K "_law_wrong" "_law_wrong" s__law_wrong f fd) (B : Blt mg) (C__law_prime : C8.Cal P w K mg base 1 "_law_prime" (toSp K ca aspLPrime) []) (C__law_power : C8.Cal P w K mg base 1 "_law_power" (toSp K ca aspLPower) []) : FnOk P w K mg base CX0 2 f fd ["p", "q", "bases"] (toSp K ca aspWrong) := by
  refine F.ok sc__law_wrong (fun vs H Q E h => sp_len (n := 3) (fun ds P a => by obtain ⟨_, _, _, rfl, _⟩ := a; rfl) h) (fun cdv A outer s H vs Q E hr h => ⟨_, (pss_cons (ps_if (PW.pt (pw_or (pt_not (pt_chain op_lt op_le pe_int (pv 0) pe_int)) (pw_or1 (pt_not (pt_val (C8.pe_c C__law_prime hr (by omega) rfl (pa_cons (pv 0) pa_nil))))))) (pss_one (ps_ret pe_str)) pss_nil)
      (pss_cons (ps_if (PW.pt (pw_or (pt_not (pt_val (C8.pe_c C__law_prime hr (by omega) rfl (pa_cons (pv 1) pa_nil)))) (pw_or1 (pt_cmpR op_ne (pe_op op_mod (pe_callTy call_int1 (by rfl) B.int bt_int (pa_cons (pe_op op_sub (pv 0) pe_int) pa_nil)) (pv 1)) pe_int (nomark _))))) (pss_one (ps_ret pe_str)) pss_nil)
      (pss_cons (ps_if (pt_not (pt_chain op_le op_le pe_int (pe_callB (klen (K := K) rfl) (by rfl) B.len bt_len (pa_cons (pv 2) pa_nil)) pe_int)) (pss_one (ps_ret pe_str)) pss_nil)
      (pss_cons (ps_for PassesOwn.never rfl (pi_range1 rfl B.range (pa_cons (pe_callB (klen (K := K) rfl) (by rfl) B.len bt_len (pa_cons (pv 2) pa_nil)) pa_nil)) (pg_name (i := 3) sc__law_wrong.nd rfl (.inl rfl))
      (pss_one (ps_if (PW.pt (pw_or (pt_not (pt_chain op_lt op_lt pe_int (pe_ix (kixs (K := K) rfl) (pv 2) (pv 3) (fun _ _ => rfl)) (pv 0))) (pw_or (pt_cmpR op_ne (C8.pe_c C__law_power hr (by omega) rfl (pa_cons (pe_ix (kixs (K := K) rfl) (pv 2) (pv 3) (fun _ _ => rfl)) (pa_cons (pv 1) (pa_cons (pv 0) pa_nil)))) pe_int (nomark _)) (pw_or1 (pt_cmpR (kin (K := K) rfl) (pe_ix (kixs (K := K) rfl) (pv 2) (pv 3) (fun _ _ => rfl)) (pe_slice (ksll (K := K) rfl) (pv 2) po_none (po_some (pv 3))) rfl))))) (pss_one (ps_ret (pv 3))) pss_nil)))
      (pss_one (ps_ret pe_non)))))),
    fn_run h (fun po => (s_seq (s_if (fun _ => (a_or (a_not (a_test (a_chain rok_B0 rok_B0 a_int a_var a_int))) (a_not (a_tb (a_call (a_cons a_var a_nil)))))) (s_ret fun _ => a_str) s_next)
      (s_seq (s_if (fun _ => (a_or (a_not (a_tb (a_call (a_cons a_var a_nil)))) (a_test (a_op pst_rv rok_ne (a_op pst_rv rok_I (a_b1 u_int (a_op pst_rv rok_I0 a_var a_int)) a_var) a_int)))) (s_ret fun _ => a_str) s_next)
      (s_seq (s_if (fun _ => (a_not (a_test (a_chain rok_B0 rok_B0 a_int (a_b1 u_len (a_pk a_var)) a_int)))) (s_ret fun _ => a_str) s_next)
      (s_seq (s_for (vs := [3]) (fun _ => (i_ran1 (a_cons (a_b1 u_len (a_pk a_var)) a_nil))) (fun _ => (g_name (by decide)))
      (s_if (fun _ => (a_or (a_not (a_test (a_chain rok_B0 rok_B0 a_int (a_op pst_pk rok_ix (a_pk a_var) a_var) a_var))) (a_or (a_test (a_op pst_rv rok_ne (a_call (a_cons (a_op pst_pk rok_ix (a_pk a_var) a_var) (a_cons a_var (a_cons a_var a_nil)))) a_int)) (a_test (a_op pst_rv rok_in (a_op pst_pk rok_ix (a_pk a_var) a_var) (a_pk (a_fz (a_slL (a_pk a_var) ao_none (ao_some a_var))))))))) (s_ret fun _ => a_var) s_next))
      (s_ret fun _ => a_non)))))) (fun ds P a => by obtain ⟨_, _, _, rfl, _⟩ := a; exact Nat.le_of_ble_eq_true rfl) ?_⟩)
  rintro ds P ⟨p, q, bs, rfl, ⟨qb, lb⟩, h1, h2, h3, h4, h5⟩
  walk_at "dd"
  refine twoD (fun p3 => ?_) (fun h => h2 fun g => h (by have := g.1; omega))
  refine twoN (fun h => h2 fun g => h g.2.1) (fun pm => ?_)
  refine ⟨p, rfl, by omega, fun b hb => ?_⟩
  walk_at "dd"
  cases b with
  | false => exact twoY rfl (h2 fun g => nomatch hb.mpr g.2.2)
  | true =>
  have gp : GP p := ⟨by omega, pm, hb.mp rfl⟩
  refine twoZ rfl ?_
  refine ⟨q, rfl, qb, fun b hb => ?_⟩
  walk_at "dd"
  cases b with
  | false => exact twoY rfl (h3 gp fun g => nomatch hb.mpr g.1)
  | true =>
  have pq := hb.mp rfl
  have q2 := pq.1
  refine twoZ rfl ?_
  refine ⟨by omega, ?_⟩
  refine twoN (fun h => h3 gp fun g => h g.2) (fun dv => ?_)
  have gq : GQ' p q := ⟨pq, dv⟩
  rw [List.length_map]
  refine twoD (fun l2 => ?_) (fun h => h4 gp gq fun z => h (by omega))
  refine twoN (fun h => h4 gp gq fun z => h (by omega)) (fun lm => ?_)
  rw [Int.toNat_natCast]
  refine ⟨by omega, by omega, ?_⟩
  refine forA_ran (n := bs.length) (fun k env => (∃ y3, env = [.d (.int p), .d (.int q), .d (.lst (bs.map .int)), y3]) ∧ GBs p q bs k) ⟨⟨_, rfl⟩, fun i b h => absurd h (Nat.not_lt_zero i)⟩ ?_ ?_
  · rintro k env hk ⟨⟨y3, rfl⟩, inv⟩ N hN
    have hb : bs[k]? = some bs[k] := List.getElem?_eq_getElem hk
    generalize bs[k] = b at hb
    have bad := h5 gp gq (by omega) (by omega) k b hb inv
    walk_at "dd"
    refine oa_at (j := k) (Int.zero_add _) hb ?_
    walk_at "dd"
    have p3 := gp.1
    refine twoD (fun b1 => ?_) (fun h => ?_)
    · refine twoN (fun h => ?_) (fun b2 => ?_)
      · rw [Int.zero_add]
        exact bad fun z => h z.2.1.2.1
      refine oa_at (j := k) (Int.zero_add _) hb ?_
      refine ⟨b, q, p, rfl, by omega, by omega, by omega, by omega, ?_⟩
      walk_at "dd"
      refine twoN (fun h => ?_) (fun el => ?_)
      · rw [Int.zero_add]
        exact bad fun z => h z.2.1.2.2
      refine oa_at (j := k) (Int.zero_add _) hb ?_
      rw [Int.zero_add, cut_to, ← List.map_take]
      refine kIn_i ?_
      walk_at "dd"
      refine twoD (fun h => bad fun z => z.2.2 h) (fun hn => ?_)
      refine hN _ ⟨⟨_, rfl⟩, fun i c hi hc => ?_⟩
      by_cases e : i = k
      · subst e
        rw [hb] at hc
        cases hc
        exact ⟨by omega, ⟨by omega, b2, el⟩, hn⟩
      · exact inv i c (by omega) hc
    · rw [Int.zero_add]
      exact bad fun z => h (by have := z.2.1.1; have := z.1; omega)
  · rintro env ⟨⟨y3, rfl⟩, inv⟩
    walk_at "dd"
    exact h1 (gok_of gp gq (by omega) (by omega) inv)
end

/-! ### each base is a power of the first one -/
theorem Pr.coprime {n e : Nat} (h : Pr (n : Int)) (e1 : 1 ≤ e) (e2 : e < n) : Nat.Coprime n e := by
  obtain ⟨n2, pr⟩ := h
  have d1 : Nat.gcd n e ∣ n := Nat.gcd_dvd_left n e
  have d2 : Nat.gcd n e ≤ e := Nat.le_of_dvd (by omega) (Nat.gcd_dvd_right n e)
  have d3 : 0 < Nat.gcd n e := Nat.gcd_pos_of_pos_left _ (by omega)
  show Nat.gcd n e = 1
  generalize Nat.gcd n e = d at d1 d2 d3
  refine Classical.byContradiction fun hd => ?_
  obtain ⟨m, rfl⟩ := d1
  have m2 : 2 ≤ m := by
    match m with
    | 0 => omega
    | 1 => omega
    | m + 2 => omega
  by_cases hc : d ≤ m
  · refine pr d (by omega) ?_ ?_
    · have := Nat.mul_le_mul_left d hc
      rw [← Int.natCast_mul]
      omega
    · rw [← Int.natCast_emod, Nat.mul_mod_right]
      rfl
  · refine pr m (by omega) ?_ ?_
    · have := Nat.mul_le_mul_right m (show m ≤ d by omega)
      rw [← Int.natCast_mul]
      omega
    · rw [← Int.natCast_emod, Nat.mul_mod_left]
      rfl
/-- multiplying by a number that is coprime meets each number -/
theorem mul_onto {n e : Nat} (h : Nat.Coprime n e) (hn : 0 < n) {t : Nat} (ht : t < n) : ∃ k, k < n ∧ e * k % n = t := by
  refine Classical.byContradiction fun hno => ?_
  have nd : (t :: (List.range n).map fun k => e * k % n).Nodup := by
    refine List.nodup_cons.mpr ⟨fun hm => ?_, ?_⟩
    · obtain ⟨k, hk, ek⟩ := List.mem_map.mp hm
      exact hno ⟨k, List.mem_range.mp hk, ek⟩
    · refine List.pairwise_map.mpr (List.Pairwise.imp_of_mem (fun {a b} ha hb hab he => ?_) List.pairwise_lt_range)
      have bn := List.mem_range.mp hb
      have dv : n ∣ e * (b - a) := by
        rw [Nat.mul_sub]
        exact Nat.dvd_of_mod_eq_zero (Nat.sub_mod_eq_zero_of_mod_eq he.symm)
      have := Nat.le_of_dvd (by omega) (h.dvd_of_dvd_mul_left dv)
      omega
  have := nodup_le nd (m := List.range n) fun x hx => by
    rcases List.mem_cons.mp hx with rfl | hx
    · exact List.mem_range.mpr ht
    · obtain ⟨k, _, rfl⟩ := List.mem_map.mp hx
      exact List.mem_range.mpr (Nat.mod_lt _ hn)
  rw [List.length_cons, List.length_map, List.length_range] at this
  omega
theorem Row.onto {p q R : Int} (r : Row p q R) {e0 e : Nat} (h0 : 1 ≤ e0) (h1 : (e0 : Int) < q) (h2 : (e : Int) < q) : ∃ k : Nat, (k : Int) < q ∧ (R ^ e0 % p) ^ k % p = R ^ e % p := by
  obtain ⟨n, rfl⟩ : ∃ n : Nat, q = n := ⟨q.toNat, by have := r.q3; omega⟩
  obtain ⟨k, hk, ek⟩ := mul_onto (Pr.coprime r.qp h0 (by omega)) (by omega) (show e < n by omega)
  refine ⟨k, by omega, ?_⟩
  have rq := r.rq
  rw [Int.toNat_natCast] at rq
  have hp := r.p3
  have e1 : (R ^ n) ^ (e0 * k / n) % p = 1 := by
    rw [← pow_emod, rq, Int.one_pow]
    exact Int.emod_eq_of_lt (by omega) (by omega)
  rw [pow_emod, ← Int.pow_mul, show e0 * k = n * (e0 * k / n) + e by rw [← ek]; exact (Nat.div_add_mod _ _).symm, Int.pow_add, Int.pow_mul, ← mul_emod_l, e1, Int.one_mul]
theorem GG.sur {p q count least b0 : Int} {bs : List Int} (g : GG p q (b0 :: bs) count least) : ∀ b ∈ b0 :: bs, ∃ k : Nat, (k : Int) < q ∧ b0 ^ k % p = b := by
  intro b hb
  have row := row_of g.tb
  obtain ⟨e0, a1, a2, a3⟩ := g.po b0 List.mem_cons_self
  obtain ⟨e, _, c2, c3⟩ := g.po b hb
  rw [a3, c3]
  exact row.onto a1 a2 c2

/-! ### so many roots at most -/
/-- a polynomial of degree n, its first coefficient a -/
inductive PolyF : Nat → Int → (Int → Int) → Prop
  | const {a : Int} {g : Int → Int} : (∀ x, g x = a) → PolyF 0 a g
  | step {n : Nat} {a b : Int} {f g : Int → Int} : PolyF n a f → (∀ x, g x = x * f x + b) → PolyF (n + 1) a g
theorem PolyF.add {r : Int} : ∀ {n : Nat} {a a' : Int} {f h : Int → Int}, PolyF (n + 1) a f → PolyF n a' h → PolyF (n + 1) a fun x => f x + r * h x
  | 0, a, a', f, h, .step (b := b) (f := f1) pf ef, .const eh => .step (b := b + r * a') pf fun x => by
    rw [ef, eh]
    omega
  | n + 1, a, a', f, h, .step (b := b) (f := f1) pf ef, .step (b := b') (f := h1) ph eh => .step (b := b + r * b') (PolyF.add (r := r) pf ph) fun x => by
    rw [ef, eh, Int.mul_add, Int.mul_add, Int.mul_left_comm r x]
    omega
theorem PolyF.div (r : Int) : ∀ {n : Nat} {a : Int} {g : Int → Int}, PolyF (n + 1) a g → ∃ h, PolyF n a h ∧ ∀ x, g x - g r = (x - r) * h x
  | 0, a, g, .step (b := b) (f := f) (.const ef) eg => ⟨fun _ => a, .const fun _ => rfl, fun x => by
    rw [eg, eg, ef, ef, Int.sub_mul]
    show x * a + b - (r * a + b) = x * a - r * a
    omega⟩
  | n + 1, a, g, .step (b := b) (f := f) pf eg => by
    obtain ⟨h, ph, eh⟩ := PolyF.div r pf
    refine ⟨fun x => f x + r * h x, PolyF.add pf ph, fun x => ?_⟩
    have e := eh x
    rw [eg, eg, Int.mul_add, Int.sub_mul, Int.mul_left_comm (x - r) r (h x), ← e, Int.mul_sub]
    omega
theorem pr_dvd {p a b : Int} (hp : Pr p) (h : p ∣ a * b) (h0 : ¬ p ∣ a) : p ∣ b := by
  have p2 := hp.1
  obtain ⟨n, rfl⟩ : ∃ n : Nat, p = n := ⟨p.toNat, by omega⟩
  have bd := emod_bd (a := a) (m := (n : Int)) (by omega)
  have ne : a % (n : Int) ≠ 0 := fun z => h0 (Int.dvd_of_emod_eq_zero z)
  obtain ⟨m, hm⟩ : ∃ m : Nat, a % (n : Int) = m := ⟨(a % (n : Int)).toNat, by omega⟩
  have cp := Pr.coprime hp (show 1 ≤ m by omega) (by omega)
  have h2 : (n : Int) ∣ (m : Int) * b := by
    refine Int.dvd_of_emod_eq_zero ?_
    rw [← hm, mul_emod_l]
    exact Int.emod_eq_zero_of_dvd h
  have h3 : n ∣ m * b.natAbs := by
    have := Int.natAbs_dvd_natAbs.mpr h2
    rw [Int.natAbs_mul, Int.natAbs_natCast, Int.natAbs_natCast] at this
    exact this
  have h4 := Int.natCast_dvd_natCast.mpr (cp.dvd_of_dvd_mul_left h3)
  exact Int.dvd_natAbs.mp h4
/-- roots, all different modulo p -/
theorem PolyF.roots {p : Int} (hp : Pr p) : ∀ {n : Nat} {a : Int} {g : Int → Int}, PolyF n a g → ∀ rs : List Int, rs.length = n + 1 → (∀ r ∈ rs, p ∣ g r) → rs.Pairwise (fun r s => ¬ p ∣ s - r) → p ∣ a
  | 0, a, g, .const eg, rs, hl, hr, _ => by
    match rs, hl with
    | [r], _ =>
      have := hr r List.mem_cons_self
      rw [eg] at this
      exact this
  | n + 1, a, g, pg, rs, hl, hr, hd => by
    match rs, hl with
    | r :: rs, hl =>
      obtain ⟨h, ph, eh⟩ := PolyF.div r pg
      obtain ⟨d1, d2⟩ := List.pairwise_cons.mp hd
      refine PolyF.roots hp ph rs (Nat.succ.inj hl) (fun s hs => ?_) d2
      have h1 := hr s (List.mem_cons_of_mem _ hs)
      have h2 := hr r List.mem_cons_self
      refine pr_dvd hp ?_ (d1 s hs)
      rw [← eh s]
      exact Int.dvd_sub h1 h2
theorem poly_pow : ∀ n : Nat, PolyF n 1 fun x => x ^ n
  | 0 => .const fun x => Int.pow_zero x
  | n + 1 => .step (b := 0) (poly_pow n) fun x => by rw [Int.pow_succ, Int.mul_comm, Int.add_zero]
/-- at most n solve x ^ n = 1 -/
theorem roots_le {p : Int} (hp : Pr p) {n : Nat} (n0 : 0 < n) (rs : List Int) (hr : ∀ r ∈ rs, (0 ≤ r ∧ r < p) ∧ r ^ n % p = 1) (nd : rs.Nodup) : rs.length ≤ n := by
  refine Nat.le_of_not_lt fun lt => ?_
  obtain ⟨m, rfl⟩ : ∃ m, n = m + 1 := ⟨n - 1, by omega⟩
  have pg : PolyF (m + 1) 1 fun x => x ^ (m + 1) - 1 := .step (b := -1) (poly_pow m) fun x => by
    rw [Int.pow_succ, Int.mul_comm]
    omega
  have p2 := hp.1
  have tk : ∀ r ∈ rs.take (m + 2), r ∈ rs := fun r h => List.mem_of_mem_take h
  have := pg.roots hp (rs.take (m + 2)) (by rw [List.length_take]; omega) (fun r h => ?_) ?_
  · have := Int.le_of_dvd (by decide) this
    omega
  · have := (hr r (tk r h)).2
    refine Int.dvd_of_emod_eq_zero ?_
    rw [Int.sub_emod, this, Int.emod_eq_of_lt (a := 1) (by omega) (by omega)]
    rfl
  · refine (List.Pairwise.sublist (List.take_sublist _ _) (List.nodup_iff_pairwise_ne.mp nd)).imp_of_mem fun {r s} h1 h2 ne hd => ?_
    have a1 := (hr r (tk r h1)).1
    have a2 := (hr s (tk s h2)).1
    by_cases z : s - r = 0
    · exact ne (by omega)
    · have := Int.le_of_dvd (b := (s - r).natAbs) (by omega) (Int.dvd_natAbs.mpr hd)
      omega

/-! ### a list times an int -/
def kRepL : Dat → Dat → (List Dat → Prop) → Prop
  | .lst xs, .int k, P => 0 ≤ k ∧ k ≤ 1000 ∧ xs.length * k.toNat ≤ 100000 ∧ P (List.replicate k.toNat xs).flatten
  | _, _, _ => False
theorem rv_rep {W : Wd} {F : Addr → Prop} {H : Hp} {vs : List V} {xs : List Dat} (r : RvAll W F H vs xs) : ∀ n : Nat, RvAll W F H (List.replicate n vs).flatten (List.replicate n xs).flatten
  | 0 => .nil
  | n + 1 => by
    rw [List.replicate_succ, List.replicate_succ, List.flatten_cons, List.flatten_cons]
    exact r.append (rv_rep r n)
theorem rok_repL {W : Wd} : RFr W Pk Rv rRep kRepL := fun F H x y d e Q P ok r1 r2 q k => by
  cases d with
  | lst xs =>
    cases r2 with
    | int j =>
      obtain ⟨a, vs, rfl, h1, _, s1⟩ := r1.lst ok
      obtain ⟨j0, j1, hl, p⟩ := q
      refine ⟨a, j, vs, rfl, rfl, h1, by omega, by omega, Nat.le_of_lt (len_size (by rw [s1.length]; exact hl)), fun l n => ?_⟩
      have x2 : Ext W F H F (upd H l (.lst (List.replicate j.toNat vs).flatten)) := Ext.lay ok n
      exact k _ F _ l _ p x2 n (fun f => ok.tr l f n) upd_same ((rv_rep s1 _).sub (x2.sub ok))
    | _ => exact (show False from q).elim
  | _ => exact (show False from q).elim

/-! ### what the law changes -/
abbrev s__law_changed : Stmt := top 30
theorem sc__law_changed : FnScope ["pool", "p", "q", "bases", "way", "place"] ["pool", "p", "q", "bases"] (defScope s__law_changed) := ⟨rfl, rfl, rfl, by decide +kernel, rfl, by decide +kernel, by decide +kernel⟩
/-- one change -/
inductive Chg (p q : Int) (bs : List Int) : Int → Int → List Int → Prop where
  | no : Chg p q bs p q bs
  | p {p' : Int} : p' ∈ [p + 1, 1, 2, 0, 1000003, 4, 4087, 3599, 6161] → Chg p q bs p' q bs
  | q {q' : Int} : q' ∈ [q + 1, 1, 0, 19, 4, 2] → Chg p q bs p q' bs
  | b {bs' : List Int} : (2 ≤ bs'.length → ∃ b ∈ bs, b ∈ bs') → bs'.length ≤ bs.length + 13 → Chg p q bs p q bs'
section
variable {P : Program} {w : World} {K : PySem.W.Frag} {mg : Str → Option Value} {base : Heap} {ca : Nat → Addr}
def aspChanged : ASp := fun ds P => ∃ (p q : Int) (bs : List Int), ds = [.pool, .int p, .int q, .lst (bs.map .int)] ∧ 0 < bs.length ∧ bs.length ≤ 100 ∧ ∀ p' q' bs', Chg p q bs p' q' bs' → P (.tup [.int p', .int q', .lst (bs'.map .int)])
theorem ok_law_changed {f : Addr} {fd : FuncData} (F : Fun K "_law_changed" "_law_changed" s__law_changed f fd) (B : Blt mg) (C__law_draw : C8.Cal P w K mg base 1 "_law_draw" (toSp K ca aspDraw) []) : FnOk P w K mg base CX0 2 f fd ["pool", "p", "q", "bases"] (toSp K ca aspChanged) := by
  refine F.ok sc__law_changed (fun vs H Q E h => sp_len (n := 4) (fun ds P a => by obtain ⟨_, _, _, rfl, _⟩ := a; rfl) h) (fun cdv A outer s H vs Q E hr h => ⟨_, (pss_cons (ps_set (i := 4) sc__law_changed.nd rfl (.inl rfl) (C8.pe_c C__law_draw hr (by omega) rfl (pa_cons (pv 0) (pa_cons pe_int pa_nil))))
      (pss_cons (ps_set (i := 5) sc__law_changed.nd rfl (.inl rfl) (C8.pe_c C__law_draw hr (by omega) rfl (pa_cons (pv 0) (pa_cons (pe_callB (klen (K := K) rfl) (by rfl) B.len bt_len (pa_cons (pv 3) pa_nil)) pa_nil))))
      (C8.pss_cut (ps_if (pt_cmpR op_eq (pv 4) pe_int (nomark _)) (pss_one (ps_set (i := 1) sc__law_changed.nd rfl (.inl rfl) (pe_ix (kixs (K := K) rfl) (pe_tupF (pa_cons (pe_op op_add (pv 1) pe_int) (pa_cons pe_int (pa_cons pe_int (pa_cons pe_int (pa_cons pe_int (pa_cons pe_int (pa_cons pe_int (pa_cons pe_int (pa_cons (pe_op op_mul pe_int pe_int) pa_nil)))))))))) (C8.pe_c C__law_draw hr (by omega) rfl (pa_cons (pv 0) (pa_cons pe_int pa_nil))) (fun _ _ => rfl)))) pss_nil)
      (C8.pss_cut (ps_if (pt_cmpR op_eq (pv 4) pe_int (nomark _)) (pss_one (ps_set (i := 2) sc__law_changed.nd rfl (.inl rfl) (pe_ix (kixs (K := K) rfl) (pe_tupF (pa_cons (pe_op op_add (pv 2) pe_int) (pa_cons pe_int (pa_cons pe_int (pa_cons pe_int (pa_cons pe_int (pa_cons pe_int pa_nil))))))) (C8.pe_c C__law_draw hr (by omega) rfl (pa_cons (pv 0) (pa_cons pe_int pa_nil))) (fun _ _ => rfl)))) pss_nil)
      (C8.pss_cut (ps_if (pt_cmpR op_eq (pv 4) pe_int (nomark _)) (pss_one (ps_set (i := 3) sc__law_changed.nd rfl (.inl rfl) (pe_slice (ksll (K := K) rfl) (pv 3) po_none (po_some (C8.pe_c C__law_draw hr (by omega) rfl (pa_cons (pv 0) (pa_cons pe_int pa_nil))))))) pss_nil)
      (C8.pss_cut (ps_if (pt_cmpR op_eq (pv 4) pe_int (nomark _)) (pss_one (ps_set (i := 3) sc__law_changed.nd rfl (.inl rfl) (pe_slice (ksll (K := K) rfl) (pe_op op_rep (pv 3) pe_int) po_none (po_some (pe_op op_add pe_int (C8.pe_c C__law_draw hr (by omega) rfl (pa_cons (pv 0) (pa_cons pe_int pa_nil)))))))) pss_nil)
      (C8.pss_cut (ps_if (pt_cmpR op_eq (pv 4) pe_int (nomark _)) (pss_one (ps_set (i := 3) sc__law_changed.nd rfl (.inl rfl) (pe_op op_cat (pe_op op_cat (pe_slice (ksll (K := K) rfl) (pv 3) po_none (po_some (pv 5))) (pe_lst (pa_cons (pe_ix (kixs (K := K) rfl) (pe_tupF (pa_cons pe_int (pa_cons pe_int (pa_cons (pv 1) (pa_cons (pe_op op_sub (pv 1) pe_int) (pa_cons (pe_op op_add (pv 1) pe_int) (pa_cons pe_int pa_nil))))))) (C8.pe_c C__law_draw hr (by omega) rfl (pa_cons (pv 0) (pa_cons pe_int pa_nil))) (fun _ _ => rfl)) pa_nil))) (pe_slice (ksll (K := K) rfl) (pv 3) (po_some (pe_op op_add (pv 5) pe_int)) po_none)))) pss_nil)
      (C8.pss_cut (ps_if (pt_cmpR op_eq (pv 4) pe_int (nomark _)) (pss_one (ps_set (i := 3) sc__law_changed.nd rfl (.inl rfl) (pe_op op_cat (pv 3) (pe_lst (pa_cons (pe_ix (kixs (K := K) rfl) (pv 3) (pv 5) (fun _ _ => rfl)) pa_nil))))) pss_nil)
      (pss_one (ps_ret (pe_tupF (pa_cons (pv 1) (pa_cons (pv 2) (pa_cons (pv 3) pa_nil)))))))))))))),
    fn_run h (fun po => (s_seq (s_set fun _ => (a_call (a_cons a_var (a_cons a_int a_nil))))
      (s_seq (s_set fun _ => (a_call (a_cons a_var (a_cons (a_b1 u_len (a_pk a_var)) a_nil))))
      (s_cut (s_if (fun _ => (a_test (a_op pst_rv rok_eq a_var a_int))) (s_set fun _ => (a_op pst_pk rok_ix (a_pk (a_tup (a_cons (a_op pst_rv rok_I0 a_var a_int) (a_cons a_int (a_cons a_int (a_cons a_int (a_cons a_int (a_cons a_int (a_cons a_int (a_cons a_int (a_cons (a_op pst_rv rok_I a_int a_int) a_nil))))))))))) (a_call (a_cons a_var (a_cons a_int a_nil))))) s_next)
      (s_cut (s_if (fun _ => (a_test (a_op pst_rv rok_eq a_var a_int))) (s_set fun _ => (a_op pst_pk rok_ix (a_pk (a_tup (a_cons (a_op pst_rv rok_I0 a_var a_int) (a_cons a_int (a_cons a_int (a_cons a_int (a_cons a_int (a_cons a_int a_nil)))))))) (a_call (a_cons a_var (a_cons a_int a_nil))))) s_next)
      (s_cut (s_if (fun _ => (a_test (a_op pst_rv rok_eq a_var a_int))) (s_set fun _ => (a_fz (a_slL (a_pk a_var) ao_none (ao_some (a_call (a_cons a_var (a_cons a_int a_nil))))))) s_next)
      (s_cut (s_if (fun _ => (a_test (a_op pst_rv rok_eq a_var a_int))) (s_set fun _ => (a_fz (a_slL (a_pk (a_fz (a_opF pst_pk rok_repL (a_pk a_var) a_int))) ao_none (ao_some (a_op pst_rv rok_I0 a_int (a_call (a_cons a_var (a_cons a_int a_nil)))))))) s_next)
      (s_cut (s_if (fun _ => (a_test (a_op pst_rv rok_eq a_var a_int))) (s_set fun _ => (a_fz (a_opF pst_pk rok_catL (a_pk (a_fz (a_opF pst_pk rok_catL (a_pk (a_fz (a_slL (a_pk a_var) ao_none (ao_some a_var)))) (a_pk (a_fz (a_lst (a_cons (a_op pst_pk rok_ix (a_pk (a_tup (a_cons a_int (a_cons a_int (a_cons a_var (a_cons (a_op pst_rv rok_I0 a_var a_int) (a_cons (a_op pst_rv rok_I0 a_var a_int) (a_cons a_int a_nil)))))))) (a_call (a_cons a_var (a_cons a_int a_nil)))) a_nil))))))) (a_pk (a_fz (a_slL (a_pk a_var) (ao_some (a_op pst_rv rok_I0 a_var a_int)) ao_none)))))) s_next)
      (s_cut (s_if (fun _ => (a_test (a_op pst_rv rok_eq a_var a_int))) (s_set fun _ => (a_fz (a_opF pst_pk rok_catL (a_pk a_var) (a_pk (a_fz (a_lst (a_cons (a_op pst_pk rok_ix (a_pk a_var) a_var) a_nil))))))) s_next)
      (s_ret fun _ => (a_tup (a_cons a_var (a_cons a_var (a_cons a_var a_nil)))))))))))))) (fun ds P a => by obtain ⟨_, _, _, rfl, _⟩ := a; exact Nat.le_of_ble_eq_true rfl) ?_⟩)
  rintro ds P ⟨p, q, bs, rfl, l0, l1, hp⟩
  refine seqG fun N hN => ?_
  walk_at "dd"
  refine draw (by omega) (by omega) fun way w0 w1 => ?_
  subst hN
  refine seqG fun N hN => ?_
  walk_at "dd"
  rw [List.length_map]
  refine draw (by omega) (by omega) fun pl pl0 pl1 => ?_
  subst hN
  have hSt : ∃ St : Nat → List Sl → Prop, ∀ i env, St i env ↔ ∃ p' q' bs', env = [.d .pool, .d (.int p'), .d (.int q'), .d (.lst (bs'.map .int)), .d (.int way), .d (.int pl)] ∧ Chg p q bs p' q' bs' ∧ ((i : Int) ≤ way → p' = p ∧ q' = q ∧ bs' = bs) := ⟨_, fun _ _ => Iff.rfl⟩
  obtain ⟨St, hSt⟩ := hSt
  refine ⟨St 1, ?_, ?_⟩
  · walk_at "dd"
    refine twoD (fun h => ?_) (fun h => (hSt _ _).mpr ⟨p, q, bs, rfl, .no, fun _ => ⟨rfl, rfl, rfl⟩⟩)
    refine ⟨.inr ⟨by omega, by omega⟩, ?_⟩
    refine draw (by omega) (by omega) fun y y0 y1 => ?_
    exact ix_anyT (f := Dat.int) (xs := [p + 1, 1, 2, 0, 1000003, 4, 4087, 3599, 6161]) y0 y1 fun j hj => (hSt _ _).mpr ⟨j, q, bs, rfl, .p hj, fun z => by omega⟩
  intro env he
  obtain ⟨p', q', bs', rfl, hc, hw⟩ := (hSt _ _).mp he
  refine ⟨St 2, ?_, ?_⟩
  · walk_at "dd"
    refine twoD (fun h => ?_) (fun h => (hSt _ _).mpr ⟨p', q', bs', rfl, hc, fun z => hw (by omega)⟩)
    obtain ⟨rfl, rfl, rfl⟩ := hw (by omega)
    refine draw (by omega) (by omega) fun y y0 y1 => ?_
    exact ix_anyT (f := Dat.int) (xs := [q' + 1, 1, 0, 19, 4, 2]) y0 y1 fun j hj => (hSt _ _).mpr ⟨p', j, bs', rfl, .q hj, fun z => by omega⟩
  clear he hc hw
  intro env he
  obtain ⟨p', q', bs', rfl, hc, hw⟩ := (hSt _ _).mp he
  refine ⟨St 3, ?_, ?_⟩
  · walk_at "dd"
    refine twoD (fun h => ?_) (fun h => (hSt _ _).mpr ⟨p', q', bs', rfl, hc, fun z => hw (by omega)⟩)
    obtain ⟨rfl, rfl, rfl⟩ := hw (by omega)
    refine draw (by omega) (by omega) fun y y0 y1 => ?_
    obtain ⟨n, rfl⟩ : ∃ n : Nat, y = n := ⟨y.toNat, by omega⟩
    dsimp only
    rw [cut_to, ← List.map_take]
    refine (hSt _ _).mpr ⟨p', q', _, rfl, .b (fun z => ?_) ?_, fun z => by omega⟩
    · rw [List.length_take] at z
      omega
    · rw [List.length_take]
      omega
  clear he hc hw
  intro env he
  obtain ⟨p', q', bs', rfl, hc, hw⟩ := (hSt _ _).mp he
  refine ⟨St 4, ?_, ?_⟩
  · walk_at "dd"
    refine twoD (fun h => ?_) (fun h => (hSt _ _).mpr ⟨p', q', bs', rfl, hc, fun z => hw (by omega)⟩)
    obtain ⟨rfl, rfl, rfl⟩ := hw (by omega)
    refine ⟨by omega, by omega, by rw [List.length_map]; show bs'.length * 13 ≤ 100000; omega, ?_⟩
    refine draw (by omega) (by omega) fun y y0 y1 => ?_
    obtain ⟨n, rfl⟩ : ∃ n : Nat, y = n := ⟨y.toNat, by omega⟩
    walk_at "dd"
    rw [show (12 : Int) + (n : Int) = ((12 + n : Nat) : Int) by omega, cut_to, show (List.replicate (13 : Int).toNat (bs'.map Dat.int)).flatten = ((List.replicate 13 bs').flatten).map .int by rw [List.map_flatten, List.map_replicate]; rfl, ← List.map_take]
    refine (hSt _ _).mpr ⟨p', q', _, rfl, .b (fun _ => ?_) ?_, fun z => by omega⟩
    · cases bs' with
      | nil => exact absurd l0 (Nat.lt_irrefl 0)
      | cons b r => exact ⟨b, List.mem_cons_self, by rw [show 12 + n = (11 + n) + 1 by omega]; exact List.mem_cons_self⟩
    · have := List.length_take_le (12 + n) (List.replicate 13 bs').flatten
      omega
  clear he hc hw
  intro env he
  obtain ⟨p', q', bs', rfl, hc, hw⟩ := (hSt _ _).mp he
  refine ⟨St 5, ?_, ?_⟩
  · walk_at "dd"
    refine twoD (fun h => ?_) (fun h => (hSt _ _).mpr ⟨p', q', bs', rfl, hc, fun z => hw (by omega)⟩)
    obtain ⟨rfl, rfl, rfl⟩ := hw (by omega)
    refine draw (by omega) (by omega) fun y y0 y1 => ?_
    refine ix_anyT (f := Dat.int) (xs := [1, 0, p', p' - 1, p' + 2, 2]) y0 y1 fun j hj => ?_
    obtain ⟨n, rfl⟩ : ∃ n : Nat, pl = n := ⟨pl.toNat, by omega⟩
    rw [cut_to, show (n : Int) + 1 = ((n + 1 : Nat) : Int) by omega, cut_from, List.length_append, List.length_take, List.length_drop, List.length_map, List.length_singleton]
    refine ⟨by omega, by omega, ?_⟩
    rw [show (bs'.map Dat.int).take n ++ [Dat.int j] ++ (bs'.map Dat.int).drop (n + 1) = (bs'.take n ++ [j] ++ bs'.drop (n + 1)).map .int by rw [List.map_append, List.map_append, List.map_take, List.map_drop]; rfl]
    refine (hSt _ _).mpr ⟨p', q', _, rfl, .b (fun z => ?_) ?_, fun z => by omega⟩
    · rw [List.length_append, List.length_append, List.length_take, List.length_drop, List.length_singleton] at z
      by_cases e : n = 0
      · subst e
        have hb : bs'[1]? = some bs'[1] := List.getElem?_eq_getElem (by omega)
        exact ⟨_, List.mem_of_getElem? hb, List.mem_append_right _ (List.mem_of_getElem? (show (bs'.drop 1)[0]? = some _ by rw [List.getElem?_drop]; exact hb))⟩
      · have hb : bs'[0]? = some bs'[0] := List.getElem?_eq_getElem (by omega)
        exact ⟨_, List.mem_of_getElem? hb, List.mem_append_left _ (List.mem_append_left _ (List.mem_of_getElem? (show (bs'.take n)[0]? = some _ by rw [List.getElem?_take_of_lt (by omega)]; exact hb)))⟩
    · rw [List.length_append, List.length_append, List.length_take, List.length_drop, List.length_singleton]
      omega
  clear he hc hw
  intro env he
  obtain ⟨p', q', bs', rfl, hc, hw⟩ := (hSt _ _).mp he
  refine ⟨St 6, ?_, ?_⟩
  · walk_at "dd"
    refine twoD (fun h => ?_) (fun h => (hSt _ _).mpr ⟨p', q', bs', rfl, hc, fun z => hw (by omega)⟩)
    obtain ⟨rfl, rfl, rfl⟩ := hw (by omega)
    refine oa_any pl0 pl1 fun x hx => ?_
    rw [List.length_map]
    refine ⟨by omega, ?_⟩
    rw [show bs'.map Dat.int ++ [Dat.int x] = (bs' ++ [x]).map .int by rw [List.map_append]; rfl]
    exact (hSt _ _).mpr ⟨p', q', _, rfl, .b (fun _ => ⟨x, hx, List.mem_append_left _ hx⟩) (by rw [List.length_append, List.length_singleton]; omega), fun z => by omega⟩
  clear he hc hw
  intro env he
  obtain ⟨p', q', bs', rfl, hc, hw⟩ := (hSt _ _).mp he
  walk_at "dd"
  exact hp p' q' bs' hc
end

/-! ### the members of a group -/
theorem ord_full {p q b : Int} (qp : Pr q) (p1 : 1 < p) (h : El p q b) (ne : b ≠ 1) {e : Nat} (e1 : 1 ≤ e) (e2 : (e : Int) < q) : b ^ e % p ≠ 1 := fun z => by
  obtain ⟨b1, b2, b3⟩ := h
  obtain ⟨n, rfl⟩ : ∃ n : Nat, q = n := ⟨q.toNat, by omega⟩
  rw [Int.toNat_natCast] at b3
  have q2 := qp.1
  obtain ⟨k, hk, ek⟩ := mul_onto (Pr.coprime qp e1 (by omega)) (by omega) (show 1 < n by omega)
  have h1 : b ^ (e * k) % p = 1 := by
    rw [Int.pow_mul, ← pow_emod, z, Int.one_pow, one_mod p1]
  have h2 : b ^ (e * k) % p = b ^ 1 % p := pow_mod_q (q := (n : Int)) (by omega) p1 (by rw [Int.toNat_natCast]; exact b3) (by
    rw [← Int.natCast_emod, ← Int.natCast_emod, ek, Nat.mod_eq_of_lt (show 1 < n by omega)])
  rw [h1, Int.pow_succ, Int.pow_zero, Int.one_mul, Int.emod_eq_of_lt (by omega) b2] at h2
  exact ne h2.symm
theorem pw_inj {p q b : Int} (qp : Pr q) (p1 : 1 < p) (h : El p q b) (ne : b ≠ 1) {i j : Nat} (hij : i < j) (hj : (j : Int) < q) : b ^ i % p ≠ b ^ j % p := fun e => by
  obtain ⟨n, rfl⟩ : ∃ n : Nat, q = n := ⟨q.toNat, by omega⟩
  have b3 := h.2.2
  rw [Int.toNat_natCast] at b3
  -- multiply by b ^ (n - i)
  have e1 : b ^ (i + (n - i)) % p = b ^ (j + (n - i)) % p := by
    rw [Int.pow_add, Int.pow_add, ← mul_emod_l, e, mul_emod_l]
  rw [show i + (n - i) = n by omega, b3, show j + (n - i) = (j - i) + n by omega, Int.pow_add, Int.mul_emod, b3, Int.mul_one, Int.emod_emod] at e1
  exact ord_full qp p1 h ne (e := j - i) (by omega) (by omega) e1.symm
def mems (p b : Int) (n : Nat) : List Int := (List.range n).map fun k => b ^ k % p
theorem mem_mems {p b x : Int} {n : Nat} : x ∈ mems p b n ↔ ∃ k, k < n ∧ b ^ k % p = x := by
  unfold mems
  rw [List.mem_map]
  exact ⟨fun ⟨k, h1, h2⟩ => ⟨k, List.mem_range.mp h1, h2⟩, fun ⟨k, h1, h2⟩ => ⟨k, List.mem_range.mpr h1, h2⟩⟩
theorem el_iff {p q b : Int} (pp : Pr p) (qp : Pr q) (h : El p q b) (ne : b ≠ 1) (x : Int) : El p q x ↔ x ∈ mems p b q.toNat := by
  have p2 := pp.1
  have q2 := qp.1
  have p1 : 1 < p := by omega
  obtain ⟨n, rfl⟩ : ∃ n : Nat, q = n := ⟨q.toNat, by omega⟩
  rw [Int.toNat_natCast]
  have b3 := h.2.2
  rw [Int.toNat_natCast] at b3
  have root : ∀ k : Nat, (b ^ k % p) ^ n % p = 1 := fun k => by
    rw [pow_emod, ← Int.pow_mul, Nat.mul_comm, Int.pow_mul, ← pow_emod, b3, Int.one_pow, one_mod p1]
  constructor
  · intro hx
    obtain ⟨x1, x2, x3⟩ := hx
    rw [Int.toNat_natCast] at x3
    refine Classical.byContradiction fun hn => ?_
    have nd : (x :: mems p b n).Nodup := by
      refine List.nodup_cons.mpr ⟨hn, ?_⟩
      unfold mems
      refine List.nodup_iff_pairwise_ne.mpr (List.pairwise_map.mpr (List.Pairwise.imp_of_mem (fun {i j} hi hj lt => ?_) List.pairwise_lt_range))
      exact pw_inj qp p1 h ne lt (by have := List.mem_range.mp hj; omega)
    have := roots_le pp (n := n) (by omega) (x :: mems p b n) (fun r hr => ?_) nd
    · unfold mems at this
      rw [List.length_cons, List.length_map, List.length_range] at this
      omega
    · rcases List.mem_cons.mp hr with rfl | hr
      · exact ⟨⟨by omega, x2⟩, x3⟩
      · obtain ⟨k, _, rfl⟩ := mem_mems.mp hr
        exact ⟨emod_bd (by omega), root k⟩
  · intro hx
    obtain ⟨k, _, rfl⟩ := mem_mems.mp hx
    have bd := emod_bd (a := b ^ k) (m := p) (by omega)
    refine ⟨?_, bd.2, by rw [Int.toNat_natCast]; exact root k⟩
    have := root k
    by_cases z : b ^ k % p = 0
    · rw [z, Int.zero_pow (by omega)] at this
      cases this
    · omega

/-! ### what stays right stays as it was drawn -/
theorem pr_div {a b : Int} (hb : Pr b) (ha : 2 ≤ a) (h : b % a = 0) : a = b := by
  obtain ⟨k, rfl⟩ := Int.dvd_of_emod_eq_zero h
  have b2 := hb.1
  have k0 : 0 < k := by
    refine Int.lt_of_not_ge fun z => ?_
    have := Int.mul_le_mul_of_nonneg_left z (show (0 : Int) ≤ a by omega)
    rw [Int.mul_zero] at this
    omega
  by_cases k1 : k = 1
  · rw [k1, Int.mul_one]
  · exfalso
    rcases Int.le_total a k with z | z
    · exact hb.2 a ha (Int.mul_le_mul_of_nonneg_left z (by omega)) h
    · exact hb.2 k (by omega) (Int.mul_le_mul_of_nonneg_right z (by omega)) (Int.mul_emod_left a k)
theorem q_same {p q q' b : Int} (p1 : 1 < p) (qp : Pr q) (qp' : Pr q') (h : El p q b) (h' : El p q' b) (ne : b ≠ 1) : q' = q := by
  have q2 := qp.1
  have q2' := qp'.1
  refine (pr_div qp' q2 ?_).symm
  have bd := emod_bd (a := q') (m := q) (by omega)
  by_cases z : q' % q = 0
  · exact z
  · exfalso
    have h3 := h'.2.2
    have e : b ^ q'.toNat % p = b ^ (q' % q).toNat % p := pow_mod_q (q := q) (by omega) p1 h.2.2 (by
      rw [Int.toNat_of_nonneg (by omega), Int.toNat_of_nonneg bd.1, Int.emod_emod])
    rw [h3] at e
    exact ord_full qp p1 h ne (e := (q' % q).toNat) (by omega) (by omega) e.symm
theorem no_pr {n : Int} (d : Int) (h2 : 2 ≤ d) (h : d * d ≤ n) (e : n % d = 0) : ¬ Pr n := fun z => z.2 d h2 h e
theorem p_bad {p p' : Int} (pp : Pr p) (p3 : 3 ≤ p) (h : p' ∈ [p + 1, 1, 2, 0, 1000003, 4, 4087, 3599, 6161]) : ¬ GP p' := fun ⟨a, b, c⟩ => by
  simp only [List.mem_cons, List.mem_nil_iff, or_false] at h
  rcases h with rfl | rfl | rfl | rfl | rfl | rfl | rfl | rfl | rfl
  · have odd : p % 2 ≠ 0 := by
      by_cases z : (2 : Int) * 2 ≤ p
      · exact pp.2 2 (by omega) z
      · omega
    exact no_pr 2 (by omega) (by omega) (by omega) c
  · omega
  · omega
  · omega
  · omega
  · exact no_pr 2 (by omega) (by omega) (by omega) c
  · exact no_pr 61 (by omega) (by omega) (by omega) c
  · exact no_pr 59 (by omega) (by omega) (by omega) c
  · exact no_pr 61 (by omega) (by omega) (by omega) c
theorem p_bad2 {p q p' p'' : Int} (dv : (p - 1) % q = 0) (q3 : 3 ≤ q) (qp : Pr q) (h1 : p' ∈ [p + 1, 1, 2, 0, 1000003, 4, 4087, 3599, 6161]) (h2 : p'' ∈ [p' + 1, 1, 2, 0, 1000003, 4, 4087, 3599, 6161]) : GP p'' → ¬ GQ' p'' q := fun ⟨a, b, c⟩ ⟨_, d⟩ => by
  have bad : ¬ (p'' ∈ [(1 : Int), 2, 0, 1000003, 4, 4087, 3599, 6161]) := fun h => by
    simp only [List.mem_cons, List.mem_nil_iff, or_false] at h
    rcases h with rfl | rfl | rfl | rfl | rfl | rfl | rfl | rfl
    · omega
    · omega
    · omega
    · omega
    · exact no_pr 2 (by omega) (by omega) (by omega) c
    · exact no_pr 61 (by omega) (by omega) (by omega) c
    · exact no_pr 59 (by omega) (by omega) (by omega) c
    · exact no_pr 61 (by omega) (by omega) (by omega) c
  rcases List.mem_cons.mp h2 with rfl | h2
  · simp only [List.mem_cons, List.mem_nil_iff, or_false] at h1
    rcases h1 with rfl | rfl | rfl | rfl | rfl | rfl | rfl | rfl | rfl
    · have : (2 : Int) % q = 0 := by
        have e : p + 1 + 1 - 1 = (p - 1) + 2 := by omega
        rw [e, Int.add_emod, dv, Int.zero_add, Int.emod_emod] at d
        exact d
      rw [Int.emod_eq_of_lt (by omega) (by omega)] at this
      cases this
    · omega
    · have : (2 : Int) % q = 0 := d
      rw [Int.emod_eq_of_lt (by omega) (by omega)] at this
      cases this
    · omega
    · omega
    · have d : (4 : Int) % q = 0 := d
      by_cases z : 4 < q
      · rw [Int.emod_eq_of_lt (by omega) z] at d
        cases d
      · have : q = 3 ∨ q = 4 := by omega
        rcases this with rfl | rfl
        · cases d
        · exact no_pr 2 (by omega) (by omega) (by omega) qp
    · exact no_pr 2 (by omega) (by omega) (by omega) c
    · exact no_pr 2 (by omega) (by omega) (by omega) c
    · exact no_pr 2 (by omega) (by omega) (by omega) c
  · exact bad h2
theorem chg_same {p q p1 q1 p2 q2 : Int} {bs bs1 bs2 : List Int} (pp : Pr p) (p3 : 3 ≤ p) (qp : Pr q) (q3 : 3 ≤ q) (dv : (p - 1) % q = 0) (el : ∀ b ∈ bs, b ≠ 1 ∧ El p q b) (ne : bs ≠ []) (c1 : Chg p q bs p1 q1 bs1) (c2 : Chg p1 q1 bs1 p2 q2 bs2) (g : GOk p2 q2 bs2) : p2 = p ∧ q2 = q := by
  have gp : GP p2 := ⟨g.p3, g.pm, g.pp⟩
  have one : ∀ b ∈ bs, p2 = p → b ∈ bs2 → q2 = q := fun b hb e hb2 => by
    subst e
    exact q_same (by omega) qp g.qp (el b hb).2 (g.el b hb2).2 (el b hb).1
  obtain ⟨b0, hb0⟩ := List.exists_mem_of_ne_nil bs ne
  cases c1 with
  | no =>
    cases c2 with
    | no => exact ⟨rfl, rfl⟩
    | p h => exact absurd gp (p_bad pp p3 h)
    | q h => exact ⟨rfl, one b0 hb0 rfl hb0⟩
    | b h _ => exact ⟨rfl, rfl⟩
  | p h1 =>
    cases c2 with
    | no => exact absurd gp (p_bad pp p3 h1)
    | p h => exact absurd ⟨g.qp, g.dv⟩ (p_bad2 dv q3 qp h1 h gp)
    | q h => exact absurd gp (p_bad pp p3 h1)
    | b h _ => exact absurd gp (p_bad pp p3 h1)
  | q h1 =>
    cases c2 with
    | no => exact ⟨rfl, one b0 hb0 rfl hb0⟩
    | p h => exact absurd gp (p_bad pp p3 h)
    | q h => exact ⟨rfl, one b0 hb0 rfl hb0⟩
    | b h _ =>
      obtain ⟨b, h2, h3⟩ := h g.l2
      exact ⟨rfl, one b h2 rfl h3⟩
  | b h1 _ =>
    cases c2 with
    | no => exact ⟨rfl, rfl⟩
    | p h => exact absurd gp (p_bad pp p3 h)
    | q h =>
      obtain ⟨b, h2, h3⟩ := h1 g.l2
      exact ⟨rfl, one b h2 rfl h3⟩
    | b h _ => exact ⟨rfl, rfl⟩

/-! ### a promise that raises nothing -/
theorem fn_x0 {P : Program} {w : World} {K : PySem.W.Frag} {mg : Str → Option Value} {base : Heap} {k : Nat} {f : Addr} {fd : FuncData} {ps : List Str} {sp sp0 : Sp} (h : FnOk P w K mg base (L2.CX P w) k f fd ps sp) (c : ∀ vs H Q E, sp0 vs H Q E → sp vs H Q (fun _ _ _ => False)) : FnOk P w K mg base CX0 k f fd ps sp0 := by
  refine ⟨fun vs H Q E q => h.len vs H Q _ (c vs H Q E q), fun A outer s H cl us vs Q E rm e0 hb rv q => ?_⟩
  refine codeAny_mono (h.run A outer s H cl us vs Q _ rm e0 hb rv (c vs H Q E q)) fun r s' hq => ?_
  cases r with
  | error e =>
    obtain ⟨_, _, _, _, _, _, _, _, _, _, _, _, z⟩ := hq
    exact z.elim
  | ok fl =>
    cases fl with
    | ret u => exact hq
    | next => exact hq
    | brk => exact hq
    | cont => exact hq
section
variable {P : Program} {w : World} {K : PySem.W.Frag} {mg : Str → Option Value} {base : Heap} {ca : Nat → Addr}
def aspGroupIK : ASpI := fun ds P => ∃ (k : Bool) (p q : Int) (bs : List Int), ds = [.int p, .int q, sqD k (bs.map .int)] ∧ GOk p q bs ∧ P [.int p, .int q, .tup (bs.map .int)]
theorem sp_groupI : ∀ vs H Q E, toSpI K ca 0 aspGroupIK vs H Q E → toSpI2 K ca 0 bspGroupI vs H Q (fun _ _ _ => False) := fun vs H Q E ⟨po, F, H1, x, dx, ws, ds, P, e1, e2, hx, hdx, hne, ok, r, ⟨k, p, q, bs, ed, g, hp⟩, z⟩ => by
  have gp : GP p := ⟨g.p3, g.pm, g.pp⟩
  have gq : GQ' p q := ⟨g.qp, g.dv⟩
  have ql := g.ql
  have pm := g.pm
  have lm := g.lm
  refine ⟨po, F, H1, x, dx, ws, fun _ => none, ds, fun d M => d = .non ∧ M x = some (.obj 0 [.int p, .int q, .tup (bs.map .int)]), X0, e1, e2, hx, hdx, hne, ⟨ok, fun a c h => by cases h⟩, r, ?_, .zero, fun d F' H' M' v ⟨hd, hM⟩ y rv => ?_⟩
  · subst ed
    refine ⟨k, x, p, q, bs, rfl, Sto.put_s, ⟨by omega, by omega⟩, fun _ => ⟨rfl, Sto.put_s⟩, fun h => absurd gp h, fun _ h => absurd gq h, fun _ _ h => absurd ⟨g.l2, lm⟩ h, fun _ _ _ _ i b hb inv h => ?_⟩
    refine absurd ⟨(g.el b (List.mem_of_getElem? hb)).1, (g.el b (List.mem_of_getElem? hb)).2, fun hm => ?_⟩ h
    obtain ⟨j, hj⟩ := List.mem_iff_getElem?.mp hm
    have lj := (List.getElem?_eq_some_iff.mp hj).1
    rw [List.length_take] at lj
    rw [List.getElem?_take_of_lt (by omega)] at hj
    have := (List.getElem?_inj (i := j) (j := i) (by omega) g.nd).mp (hj.trans hb.symm)
    omega
  · subst hd
    cases rv
    obtain ⟨nf, np, dy, fs, hA, lf, rf, no⟩ := y.ok.at_ x _ hM
    have hn : H' x ≠ none := by rw [hA]; exact fun z => by cases z
    have kk : Okk ⟨K, ca, po⟩ (fun b => F' b ∨ b = x) H' := ⟨fun b f => by
      rcases f with f | rfl
      · exact y.ok.ok.tr b f
      · exact hn, fun p' c' e => by
      obtain ⟨h1, h2, h3⟩ := y.ok.ok.po p' c' e
      refine ⟨h1, fun f => ?_, fun f => ?_⟩
      · rcases f with f | f
        · exact h2 f
        · exact (np p' c' e).1 f.symm
      · rcases f with f | f
        · exact h3 f
        · exact (np p' c' e).2 f.symm⟩
    refine z _ (fun b => F' b ∨ b = x) H' hp ⟨fun b f => .inl (y.up b f), fun b f => ?_, fun a o e n => y.kp a o e n rfl, kk⟩ (.obj (.inr rfl) hA (rf.sub (sub_fz x)) no)
    rcases f with f | rfl
    · rcases y.dn b f with u | u | u
      · exact .inl u
      · exact .inr u
      · exact absurd rfl u
    · exact .inr hx
end

abbrev s__law_pool : Stmt := top 21
theorem sc__law_pool : FnScope ["script", "budget"] ["script", "budget"] (defScope s__law_pool) := ⟨rfl, rfl, rfl, by decide +kernel, rfl, by decide +kernel, by decide +kernel⟩
section
variable {P : Program} {w : World} {K : PySem.W.Frag} {mg : Str → Option Value} {base : Heap}
def spPool (K : PySem.W.Frag) : Sp := fun vs H Q _ => ∃ (a : Addr) (ns : List Int) (z : Int), vs = [.ref a, .int z] ∧ SqL K H a (ns.map V.int) ∧
  ∀ p c H', Same H H' → H p = none → PoolAt H' p c → Q (.ref p) H'
theorem ok_law_pool {f : Addr} {fd : FuncData} (F : Fun K "_law_pool" "_law_pool" s__law_pool f fd) (B : Blt mg) : FnOk P w K mg base CX0 1 f fd ["script", "budget"] (spPool K) := by
  refine F.ok sc__law_pool (fun vs H Q E h => ?_) (fun cdv A outer s H vs Q E hr h => ?_)
  · obtain ⟨a, ns, z, rfl, _⟩ := h
    rfl
  · obtain ⟨a, ns, z, rfl, hS, q⟩ := h
    refine ⟨_, (pss_one (ps_ret (pe_lst (pa_cons (pe_callTy (klist (K := K) rfl) (by rfl) B.list bt_list (pa_cons (pv 0) pa_nil)) (pa_cons pe_int (pa_cons pe_int (pa_cons pe_int (pa_cons pe_int (pa_cons (pv 1) pa_nil))))))))), ?_⟩
    walk_at "go"
    intro c hc
    walk_at "go"
    intro p hp
    have s1 := same_new (o := .lst (ns.map V.int)) hc
    refine q p c _ (s1.trans (same_new hp)) (s1.free hp) ⟨ns, 0, 0, 1, 0, z, upd_same, ?_, by omega, by omega, by omega⟩
    rw [upd_ne (ne_of_none upd_same hp), upd_same]
end

/-! ### a law, from its pool on -/
def spLaw (K : PySem.W.Frag) : Sp := fun vs H Q _ => ∃ (a : Addr) (ns : List Int), vs = [.ref a] ∧ SqL K H a (ns.map V.int) ∧ ∀ H', Q (.bl true) H'
theorem law_run {K : PySem.W.Frag} {ca : Nat → Addr} {a p c : Addr} {n : Nat} {H1 : Hp} {Q : VK} {ts : TS} {as : ASt} (hs : ∀ po, AStm ⟨K, ca, po⟩ ts as) (hP : PoolAt H1 p c) (z : ∀ H', Q (.bl true) H')
    (hb : as { nx := fun _ => False, rt := fun d => d = .bl true } (.u :: .d .pool :: List.replicate n .u)) : ts { nx := fun _ H' => Q .non H', rt := Q } (some (.ref a) :: some (.ref p) :: List.replicate n none) H1 := by
  have ok : Okk ⟨K, ca, some (p, c)⟩ (fun _ => False) H1 := ⟨fun _ f => f.elim, fun p' c' e => by
    cases e
    exact ⟨hP, fun f => f, fun f => f⟩⟩
  have rep : ∀ (i : Nat) (s : Sl), (List.replicate n Sl.u)[i]? = some s → s = .u ∧ i < n := fun i s e => by
    obtain ⟨hb, e⟩ := List.getElem?_eq_some_iff.mp e
    rw [List.getElem_replicate] at e
    rw [List.length_replicate] at hb
    exact ⟨e.symm, hb⟩
  have m : Mt ⟨K, ca, some (p, c)⟩ H1 (fun _ => False) H1 (some (.ref a) :: some (.ref p) :: List.replicate n none) (.u :: .d .pool :: List.replicate n .u) := by
    refine ⟨by simp, fun i s e => ?_, fun i j xs ys b e => ?_⟩
    · match i with
      | 0 => cases e; exact ⟨_, rfl, trivial⟩
      | 1 => cases e; exact ⟨_, rfl, _, rfl, .pool rfl⟩
      | i + 2 =>
        obtain ⟨rfl, hi⟩ := rep i s e
        refine ⟨none, ?_, trivial⟩
        show (List.replicate n (none : Option V))[i]? = _
        rw [List.getElem?_eq_getElem (by rw [List.length_replicate]; exact hi), List.getElem_replicate]
    · match i with
      | 0 => cases e
      | 1 => cases e
      | i + 2 =>
        have := (rep i _ e).1
        cases this
  exact (hs (some (p, c))).run _ H1 _ H1 _ { nx := fun _ => False, rt := fun d => d = .bl true } _ _ _ H1 ok ⟨.refl ok, Sub.refl _ _⟩ m
    ⟨fun σ env F' H' b m p => p.elim, fun v d F' H' b r e => by
      subst e
      cases r
      exact z H', fun _ _ _ _ _ _ p => p.elim, fun _ _ _ _ _ _ p => p.elim⟩ hb
theorem law_start {K : PySem.W.Frag} {ca : Nat → Addr} {a : Addr} {ns : List Int} {x y : Str} {N : List Str} {b : Int} {E : XK} {H : Hp} {Q : VK} {ts : TS} {as : ASt} (hS : SqL K H a (ns.map V.int)) (z : ∀ H', Q (.bl true) H') (hs : ∀ po, AStm ⟨K, ca, po⟩ ts as)
    (hb : as { nx := fun _ => False, rt := fun d => d = .bl true } (.u :: .d .pool :: List.replicate N.length .u)) :
    tSeq (tAsg (tCall (spPool K) [] E (tCons (tVar 0) (tCons (tC (.int b)) tNil))) (gName 1)) ts { nx := fun _ H' => Q .non H', rt := Q } (L2.start (x :: y :: N) [.ref a]) H :=
  ⟨_, rfl, a, ns, _, rfl, hS, fun p c H1 s1 n1 hP => law_run hs hP z hb⟩

/-! ### a law with cells, from its pool on -/
theorem law_runB {K : PySem.W.Frag} {ca : Nat → Addr} {a p c : Addr} {n : Nat} {H1 : Hp} {Q : VK} {ts : TS} {E : XS} {bs : BSt} (hs : ∀ po, BStm ⟨K, ca, po⟩ E ts bs) (hP : PoolAt H1 p c) (z : ∀ H', Q (.bl true) H')
    (hb : bs { nx := fun _ _ => False, rt := fun d _ => d = .bl true } (.u :: .d .pool :: List.replicate n .u) (fun _ => none)) : ts { nx := fun _ H' => Q .non H', rt := Q } (some (.ref a) :: some (.ref p) :: List.replicate n none) H1 := by
  have ok : Okk ⟨K, ca, some (p, c)⟩ (fun _ => False) H1 := ⟨fun _ f => f.elim, fun p' c' e => by
    cases e
    exact ⟨hP, fun f => f, fun f => f⟩⟩
  have rep : ∀ (i : Nat) (s : Sl), (List.replicate n Sl.u)[i]? = some s → s = .u ∧ i < n := fun i s e => by
    obtain ⟨hb, e⟩ := List.getElem?_eq_some_iff.mp e
    rw [List.getElem_replicate] at e
    rw [List.length_replicate] at hb
    exact ⟨e.symm, hb⟩
  have m : Mt ⟨K, ca, some (p, c)⟩ H1 (fun _ => False) H1 (some (.ref a) :: some (.ref p) :: List.replicate n none) (.u :: .d .pool :: List.replicate n .u) := by
    refine ⟨by simp, fun i s e => ?_, fun i j xs ys b e => ?_⟩
    · match i with
      | 0 => cases e; exact ⟨_, rfl, trivial⟩
      | 1 => cases e; exact ⟨_, rfl, _, rfl, .pool rfl⟩
      | i + 2 =>
        obtain ⟨rfl, hi⟩ := rep i s e
        refine ⟨none, ?_, trivial⟩
        show (List.replicate n (none : Option V))[i]? = _
        rw [List.getElem?_eq_getElem (by rw [List.length_replicate]; exact hi), List.getElem_replicate]
    · match i with
      | 0 => cases e
      | 1 => cases e
      | i + 2 =>
        have := (rep i _ e).1
        cases this
  have st : SoOk ⟨K, ca, some (p, c)⟩ (fun _ => False) H1 (fun _ => none) := ⟨ok, fun _ _ e => by cases e⟩
  have m2 : Mt2 ⟨K, ca, some (p, c)⟩ H1 (fun _ => False) H1 (fun _ => none) (some (.ref a) :: some (.ref p) :: List.replicate n none) (.u :: .d .pool :: List.replicate n .u) := m
  exact (hs (some (p, c))).run _ H1 _ _ H1 _ { nx := fun _ _ => False, rt := fun d _ => d = .bl true } _ _ _ H1 _ ⟨⟨.refl st, Sub.refl _ _⟩, m2⟩
    ⟨fun σ env F' H' M' b m p => p.elim, fun v d F' H' M' b r e => by
      subst e
      cases r
      exact z H', fun _ _ _ _ _ _ _ p => p.elim, fun _ _ _ _ _ _ _ p => p.elim, fun _ _ _ _ _ _ _ => .zero⟩ hb
theorem law_startB {K : PySem.W.Frag} {ca : Nat → Addr} {a : Addr} {ns : List Int} {x y : Str} {N : List Str} {b : Int} {E' : XK} {H : Hp} {Q : VK} {ts : TS} {E : XS} {bs : BSt} (hS : SqL K H a (ns.map V.int)) (z : ∀ H', Q (.bl true) H') (hs : ∀ po, BStm ⟨K, ca, po⟩ E ts bs)
    (hb : bs { nx := fun _ _ => False, rt := fun d _ => d = .bl true } (.u :: .d .pool :: List.replicate N.length .u) (fun _ => none)) :
    tSeq (tAsg (tCall (spPool K) [] E' (tCons (tVar 0) (tCons (tC (.int b)) tNil))) (gName 1)) ts { nx := fun _ H' => Q .non H', rt := Q } (L2.start (x :: y :: N) [.ref a]) H :=
  ⟨_, rfl, a, ns, _, rfl, hS, fun p c H1 s1 n1 hP => law_runB hs hP z hb⟩

/-! ### which part is wrong -/
def Wr (p q : Int) (bs : List Int) (d : Dat) : Prop := (GOk p q bs ∧ d = .non) ∨ (¬ GP p ∧ d = .str "p") ∨ (GP p ∧ ¬ GQ' p q ∧ d = .str "q") ∨ (GP p ∧ GQ' p q ∧ ¬ (2 ≤ bs.length ∧ bs.length ≤ 12) ∧ d = .str "bases") ∨
  (GP p ∧ GQ' p q ∧ 2 ≤ bs.length ∧ bs.length ≤ 12 ∧ ∃ (i : Nat) (b : Int), bs[i]? = some b ∧ GBs p q bs i ∧ ¬ (b ≠ 1 ∧ El p q b ∧ b ∉ bs.take i) ∧ d = .int (i : Nat))
theorem Wr.fl {p q : Int} {bs : List Int} {d : Dat} (h : Wr p q bs d) : flD d ∧ plD d = true := by
  rcases h with ⟨_, rfl⟩ | ⟨_, rfl⟩ | ⟨_, _, rfl⟩ | ⟨_, _, _, rfl⟩ | ⟨_, _, _, _, i, b, _, _, _, rfl⟩ <;> exact ⟨trivial, rfl⟩
theorem Wr.ok {p q : Int} {bs : List Int} (h : Wr p q bs .non) : GOk p q bs := by
  rcases h with ⟨g, _⟩ | ⟨_, e⟩ | ⟨_, _, e⟩ | ⟨_, _, _, e⟩ | ⟨_, _, _, _, i, b, _, _, _, e⟩
  · exact g
  all_goals cases e
theorem wrong_any {p q : Int} {bs : List Int} {P : Dat → Prop} (hq : q ≤ 1002000) (hl : bs.length ≤ 10000) (k : ∀ d, Wr p q bs d → P d) : aspWrong [.int p, .int q, .lst (bs.map .int)] P :=
  ⟨p, q, bs, rfl, ⟨hq, hl⟩, fun g => k _ (.inl ⟨g, rfl⟩), fun n => k _ (.inr (.inl ⟨n, rfl⟩)), fun a n => k _ (.inr (.inr (.inl ⟨a, n, rfl⟩))), fun a b n => k _ (.inr (.inr (.inr (.inl ⟨a, b, n, rfl⟩)))),
    fun a b l1 l2 i c e inv bad => k _ (.inr (.inr (.inr (.inr ⟨a, b, l1, l2, i, c, e, inv, bad, rfl⟩))))⟩
theorem gbs_of {p q : Int} {bs : List Int} (g : GOk p q bs) {i : Nat} {b : Int} (hb : bs[i]? = some b) : b ≠ 1 ∧ El p q b ∧ b ∉ bs.take i :=
  ⟨(g.el b (List.mem_of_getElem? hb)).1, (g.el b (List.mem_of_getElem? hb)).2, fun hm => by
    obtain ⟨j, hj⟩ := List.mem_iff_getElem?.mp hm
    have lj := (List.getElem?_eq_some_iff.mp hj).1
    rw [List.length_take] at lj
    rw [List.getElem?_take_of_lt (by omega)] at hj
    have := (List.getElem?_inj (i := j) (j := i) (by omega) g.nd).mp (hj.trans hb.symm)
    omega⟩
/-- a group is made exactly if nothing is wrong -/
theorem grp_wr {p q : Int} {bs : List Int} {d : Dat} {k : Bool} {x : Addr} {M : Sto} {X : XD} {P : Dat → Sto → Prop} (w : Wr p q bs d) (hM : M x = some (.obj 0 [])) (hq : q ≤ 1002000) (hl : bs.length ≤ 10000)
    (h1 : d = .non → GOk p q bs → P .non (M.put x (some (.obj 0 [.int p, .int q, .tup (bs.map .int)])))) (h2 : d ≠ .non → X 10 [d] M) : bspGroupI [.cell x, .int p, .int q, sqD k (bs.map .int)] M X P := by
  refine ⟨k, x, p, q, bs, rfl, hM, ⟨by omega, hl⟩, ?_⟩
  have ng : ∀ g : GOk p q bs, GP p ∧ GQ' p q ∧ 2 ≤ bs.length ∧ bs.length ≤ 12 := fun g => ⟨⟨g.p3, g.pm, g.pp⟩, ⟨g.qp, g.dv⟩, g.l2, g.lm⟩
  rcases w with ⟨g, rfl⟩ | ⟨n, rfl⟩ | ⟨a, n, rfl⟩ | ⟨a, b, n, rfl⟩ | ⟨a, b, l1, l2, i, c, e, inv, bad, rfl⟩
  · obtain ⟨a, b, l1, l2⟩ := ng g
    exact ⟨h1 rfl, fun n => absurd a n, fun _ n => absurd b n, fun _ _ n => absurd ⟨l1, l2⟩ n, fun _ _ _ _ i c e _ bad => absurd (gbs_of g e) bad⟩
  · exact ⟨fun g => absurd (ng g).1 n, fun _ => h2 (fun z => by cases z), fun a => absurd a n, fun a => absurd a n, fun a => absurd a n⟩
  · exact ⟨fun g => absurd (ng g).2.1 n, fun m => absurd a m, fun _ _ => h2 (fun z => by cases z), fun _ b => absurd b n, fun _ b => absurd b n⟩
  · exact ⟨fun g => absurd (ng g).2.2 n, fun m => absurd a m, fun _ m => absurd b m, fun _ _ _ => h2 (fun z => by cases z), fun _ _ l1 l2 => absurd ⟨l1, l2⟩ n⟩
  · refine ⟨fun g => absurd (gbs_of g e) bad, fun m => absurd a m, fun _ m => absurd b m, fun _ _ m => absurd ⟨l1, l2⟩ m, fun _ _ _ _ j c' e' inv' bad' => ?_⟩
    have : j = i := by
      rcases Nat.lt_trichotomy j i with z | z | z
      · exact absurd (inv j c' z e') bad'
      · exact z
      · exact absurd (inv' i c z e) bad
    rw [this]
    exact h2 (fun z => by cases z)
theorem Wr.notN {p q : Int} {bs : List Int} {d : Dat} {P : Dat → Prop} (w : Wr p q bs d) (n : d ≠ .non) (h : P (.bl true)) : kIsN true d .non P := by
  rcases w with ⟨_, rfl⟩ | ⟨_, rfl⟩ | ⟨_, _, rfl⟩ | ⟨_, _, _, rfl⟩ | ⟨_, _, _, _, i, b, _, _, _, rfl⟩
  · exact absurd rfl n
  all_goals exact h

theorem same_ok {a d : Dat} {A B : Prop} {n : Nat} (hx : plD a = true) (hy : okS n d) (e : a = d) (h : B) : aspSame (n + 1) [a, d] fun x => bQ x fun b => two (!b) A B := ⟨a, d, rfl, hx, hy, fun b hb => by
  have := hb.mpr e
  subst this
  exact h⟩
theorem same_end {a d : Dat} {P : Dat → Prop} {n : Nat} (hx : plD a = true) (hy : okS n d) (e : a = d) (h : P (.bl true)) : aspSame (n + 1) [a, d] P := ⟨a, d, rfl, hx, hy, fun b hb => by
  have := hb.mpr e
  subst this
  exact h⟩
theorem okS_tup {n : Nat} {xs : List Dat} (l : xs.length ≤ 1000000) (h : ∀ x ∈ xs, okS n x) : okS (n + 1) (.tup xs) := ⟨l, h⟩
theorem okS_lst {n : Nat} {xs : List Dat} (l : xs.length ≤ 1000000) (h : ∀ x ∈ xs, okS n x) : okS (n + 1) (.lst xs) := ⟨l, h⟩
theorem okS_int (n : Nat) (i : Int) : okS n (.int i) := by cases n <;> trivial
theorem okS_str (n : Nat) (i : Str) : okS n (.str i) := by cases n <;> trivial
theorem okS_bl (n : Nat) (b : Bool) : okS n (.bl b) := by cases n <;> trivial
theorem okS_non (n : Nat) : okS n .non := by cases n <;> trivial
theorem okS_map {α : Type} {f : α → Dat} {n : Nat} {xs : List α} (h : ∀ x ∈ xs, okS n (f x)) : ∀ d ∈ xs.map f, okS n d := fun d hd => by
  obtain ⟨x, hx, rfl⟩ := List.mem_map.mp hd
  exact h x hx
theorem plAll_map {α : Type} {f : α → Dat} {xs : List α} (h : ∀ x ∈ xs, plD (f x) = true) : plAll (xs.map f) = true := plAll_of fun d hd => by
  obtain ⟨x, hx, rfl⟩ := List.mem_map.mp hd
  exact h x hx
theorem ok_trip {p q : Int} {d : Dat} {n : Nat} (h : okS (n + 1) d) : okS (n + 2) (.lst [.int p, .int q, d]) := okS_lst (Nat.le_of_ble_eq_true rfl) fun x hx => by
  simp only [List.mem_cons, List.mem_nil_iff, or_false] at hx
  rcases hx with rfl | rfl | rfl
  · exact okS_int _ _
  · exact okS_int _ _
  · exact h
theorem pl_trip {p q : Int} {d : Dat} (h : plD d = true) : plD (.lst [.int p, .int q, d]) = true := by
  show (true && (true && (plD d && true))) = true
  rw [h]
  rfl
/-- == of two groups, asked of _law_same -/
theorem eq_grp {p q p' q' : Int} {bs bs' : List Int} {P : Dat → Prop} (k : ∀ b : Bool, (b = true ↔ p = p' ∧ q = q' ∧ bs = bs') → P (.bl b)) : kEqO 0 aspGrEq (grpD p q bs) (grpD p' q' bs') P :=
  ⟨⟨rfl, rfl⟩, p, q, p', q', bs, bs', rfl, fun b hb => ⟨b, rfl, k b hb⟩⟩
theorem rev_ne {bs : List Int} (nd : bs.Nodup) (l : 2 ≤ bs.length) : bs ≠ bs.reverse := fun e => by
  have h0 : bs[0]? = bs[bs.length - 1]? := by
    have h1 : bs.reverse[0]? = bs[bs.length - 1]? := by
      rw [List.getElem?_reverse (by omega), Nat.sub_zero]
    rw [← h1, ← e]
  have := (List.getElem?_inj (i := 0) (j := bs.length - 1) (by omega) nd).mp h0
  omega
theorem GOk.rev {p q : Int} {bs : List Int} (g : GOk p q bs) : GOk p q bs.reverse := by
  have l2 := g.l2
  have lm := g.lm
  exact ⟨g.p3, g.pm, g.pp, g.qp, g.dv, by rw [List.length_reverse]; exact l2, by rw [List.length_reverse]; exact lm, fun b hb => g.el b (List.mem_reverse.mp hb), List.pairwise_reverse.mpr (List.Pairwise.imp (fun h => Ne.symm h) g.nd)⟩
theorem gok_23 : GOk 23 11 [2, 3] := by
  have row := row_of (show ((23 : Int), (11 : Int)) ∈ tab by decide)
  exact ⟨row.p3, row.pm, row.pp, row.qp, row.dv, by decide, by decide, by unfold El; decide +kernel, by decide⟩
theorem gok_47 : GOk 47 23 [2, 3] := by
  have row := row_of (show ((47 : Int), (23 : Int)) ∈ tab by decide)
  exact ⟨row.p3, row.pm, row.pp, row.qp, row.dv, by decide, by decide, by unfold El; decide +kernel, by decide⟩
theorem bl_false {b : Bool} {p : Prop} (h1 : b = true ↔ p) (h2 : ¬ p) : b = false := Bool.eq_false_iff.mpr fun z => h2 (h1.mp z)
theorem mems_succ {p b : Int} {n : Nat} : mems p b (n + 1) = mems p b n ++ [b ^ n % p] := by
  unfold mems
  rw [List.range_succ, List.map_append]
  rfl
theorem mems_len {p b : Int} {n : Nat} : (mems p b n).length = n := by
  unfold mems
  rw [List.length_map, List.length_range]
theorem mems_at {p b : Int} {n k : Nat} (h : k < n) : (mems p b n)[k]? = some (b ^ k % p) := by
  unfold mems
  rw [List.getElem?_map, List.getElem?_range h]
  rfl
theorem mems_one {p b : Int} (p1 : 1 < p) : mems p b 1 = [1] := by
  show [b ^ 0 % p] = [1]
  rw [Int.pow_zero, Int.emod_eq_of_lt (by omega) p1]
theorem prs_of {α : Type} : ∀ {xs : List α} {ys : List Dat}, Paired (fun _ y => ∃ pr : Int × Int, y = prT pr) xs ys → ∃ prs : List (Int × Int), ys = prs.map prT
  | _, _, .nil => ⟨[], rfl⟩
  | _, _, .cons (b := b) r t => by
    obtain ⟨pr, rfl⟩ := r
    obtain ⟨prs, rfl⟩ := prs_of t
    exact ⟨pr :: prs, rfl⟩
theorem all_flat {xs : List Int} : (xs.map Dat.int).all flatD = true := List.all_eq_true.mpr fun d hd => by
  obtain ⟨x, _, rfl⟩ := List.mem_map.mp hd
  rfl

abbrev s_law : Stmt := top 31
theorem sc_law : FnScope ["script", "pool", "p", "q", "bases", "good", "due", "group", "e", "members", "k", "turn", "number", "element", "exponent", "pairs"] ["script"] (defScope s_law) := ⟨rfl, rfl, rfl, by decide +kernel, rfl, by decide +kernel, by decide +kernel⟩
/-- the error classes -/
structure Errs1 (K : PySem.W.Frag) (mg : Str → Option Value) (ca : Nat → Addr) (CV CO CQ CR CT CU : Addr) : Prop where
  VouchError : mg "VouchError" = some (.ref CV)
  BadGroup : mg "BadGroup" = some (.ref (ca 10))
  BadOpening : mg "BadOpening" = some (.ref CO)
  BadQuestion : mg "BadQuestion" = some (.ref CQ)
  BadRequest : mg "BadRequest" = some (.ref CR)
  BadText : mg "BadText" = some (.ref CT)
  BadTurn : mg "BadTurn" = some (.ref CU)
  ValueError : mg "ValueError" = none
section
variable {P : Program} {w : World} {K : PySem.W.Frag} {mg : Str → Option Value} {base : Heap} {ca : Nat → Addr} {CV CO CQ CR CT CU : Addr}
theorem ok_law {f : Addr} {fd : FuncData} (F : Fun K "law" "law" s_law f fd) (B : Blt mg) (T0 : GT K (ca 0)) (G : Errs1 K mg ca CV CO CQ CR CT CU) (E0 : EqM P w K mg base 1 (ca 0) (toSp K ca aspGrEq))
    (XE : ExcC K (ca 10)) (XF : XfC K (ca 10) ∧ PySem.W.findIn K (.ref (ca 10)) "what" = some none) (IX_BadGroup : PySem.W.kitOne K (.ref (ca 10)) (.ref (ca 10)) = some true) (IX_ValueError : PySem.W.kitOne K (.ref (ca 10)) (.type "ValueError") = some true)
    (IX_BadOpening_BadQuestion_BadRequest_BadText_BadTurn : PySem.W.kitAny K (.ref (ca 10)) [.ref CO, .ref CQ, .ref CR, .ref CT, .ref CU] = some false) (XK_law : ∀ k ∈ [10], (∃ f, xcN k = some f) ∧ PySem.W.exmOne K (.ref (ca k)) (.ref CV) = some true)
    (C__law_pool : C8.Cal P w K mg base 1 "_law_pool" (spPool K) []) (C__law_draw : C8.Cal P w K mg base 1 "_law_draw" (toSp K ca aspDraw) []) (C__law_group : C8.Cal P w K mg base 2 "_law_group" (toSp K ca aspLGroup) []) (C__law_changed : C8.Cal P w K mg base 2 "_law_changed" (toSp K ca aspChanged) [])
    (C__law_wrong : C8.Cal P w K mg base 2 "_law_wrong" (toSp K ca aspWrong) []) (C__law_same : C8.Cal P w K mg base 14 "_law_same" (toSp K ca (aspSame 14)) []) (W__law_same : CalW P w K mg base 1 "_law_same" (toSp K ca aspSameW)) (C__law_raised : C8.Cal P w K mg base 2 "_law_raised" (toSp K ca aspLRaised) []) (C__law_product : C8.Cal P w K mg base 3 "_law_product" (toSp K ca aspLProduct) [])
    (M_is_element : C8.Met P w K mg base 3 (ca 0) "is_element" (toSp K ca aspIsEl) []) (M_raised : C8.Met P w K mg base 2 (ca 0) "raised" (toSp K ca aspRaised) []) (M_product : C8.Met P w K mg base 3 (ca 0) "product" (toSp K ca aspProduct) []) (M_log : C8.Met P w K mg base 1 (ca 0) "log" (toSp K ca aspLog) [])
    (K_Group : C8.Mak P w K mg base 5 "Group" (ca 0) (toSpI K ca 0 aspGroupIK) []) (MX_Group : MakX P w K mg base 5 "Group" (ca 0) (toSpI2 K ca 0 bspGroupI)) : FnOk P w K mg base CX0 24 f fd ["script"] (spLaw K) := by
  refine F.ok sc_law (fun vs H Q E h => ?_) (fun cdv A outer s H vs Q E hr h => ?_)
  · obtain ⟨a, ns, rfl, _⟩ := h
    rfl
  obtain ⟨a, ns, rfl, hS, z⟩ := h
  refine ⟨_, (pss_cons (ps_set (i := 1) sc_law.nd rfl (.inr rfl) (C8.pe_c C__law_pool hr (by omega) rfl (pa_cons (pv 0) (pa_cons pe_int pa_nil))))
      (pss_cons (ps_asg (C8.pe_c C__law_group hr (by omega) rfl (pa_cons (pv 1) (pa_cons (pe_op op_add pe_int (pe_ix (kixs (K := K) rfl) (pe_tupF (pa_cons (C8.pe_c C__law_draw hr (by omega) rfl (pa_cons (pv 1) (pa_cons pe_int pa_nil))) (pa_cons pe_int pa_nil))) (C8.pe_c C__law_draw hr (by omega) rfl (pa_cons (pv 1) (pa_cons pe_int pa_nil))) (fun _ _ => rfl))) (pa_cons pe_int pa_nil)))) (kgtup (K := K) (n := 3) rfl rfl (pgs_cons (pg_name (i := 2) sc_law.nd rfl (.inl rfl)) (pgs_cons (pg_name (i := 3) sc_law.nd rfl (.inr rfl)) (pgs_cons (pg_name (i := 4) sc_law.nd rfl (.inl rfl)) pgs_nil)))))
      (pss_cons (ps_set (i := 5) sc_law.nd rfl (.inl rfl) (pe_tupF (pa_cons (pv 2) (pa_cons (pv 3) (pa_cons (pv 4) pa_nil)))))
      (pss_cons (ps_asg (C8.pe_c C__law_changed hr (by omega) rfl (pa_cons (pv 1) (pa_cons (pv 2) (pa_cons (pv 3) (pa_cons (pv 4) pa_nil))))) (kgtup (K := K) (n := 3) rfl rfl (pgs_cons (pg_name (i := 2) sc_law.nd rfl (.inl rfl)) (pgs_cons (pg_name (i := 3) sc_law.nd rfl (.inr rfl)) (pgs_cons (pg_name (i := 4) sc_law.nd rfl (.inl rfl)) pgs_nil)))))
      (C8.pss_cut (ps_if (PW.pt (pw_and (pt_cmpR op_eq (C8.pe_c C__law_draw hr (by omega) rfl (pa_cons (pv 1) (pa_cons pe_int pa_nil))) pe_int (nomark _)) (pw_and1 (pt_cmpR op_gt (pe_callB (klen (K := K) rfl) (by rfl) B.len bt_len (pa_cons (pv 4) pa_nil)) pe_int (nomark _))))) (pss_one (ps_asg (C8.pe_c C__law_changed hr (by omega) rfl (pa_cons (pv 1) (pa_cons (pv 2) (pa_cons (pv 3) (pa_cons (pv 4) pa_nil))))) (kgtup (K := K) (n := 3) rfl rfl (pgs_cons (pg_name (i := 2) sc_law.nd rfl (.inl rfl)) (pgs_cons (pg_name (i := 3) sc_law.nd rfl (.inr rfl)) (pgs_cons (pg_name (i := 4) sc_law.nd rfl (.inl rfl)) pgs_nil)))))) pss_nil)
      (pss_cons (ps_set (i := 6) sc_law.nd rfl (.inl rfl) (C8.pe_c C__law_wrong hr (by omega) rfl (pa_cons (pv 2) (pa_cons (pv 3) (pa_cons (pv 4) pa_nil)))))
      (C8.pss_cut (ps_try_as (i := 8) (Wout := fun _ _ _ _ => False) rfl rfl sc_law.nd rfl rfl ⟨rfl, by decide, .inl G.VouchError⟩ takes0
        (fun W pn xe tk po => (pss_one (ps_set (i := 7) sc_law.nd rfl (.inl rfl) (by exact (pe_mkX MX_Group tk hr (by omega) rfl (pa_cons (pv 2) (pa_cons (pv 3) (pa_cons (pe_callTy (klist (K := K) rfl) (by rfl) B.list bt_list (pa_cons (pv 4) pa_nil)) pa_nil))))))))
        (fun a oe cls d pn hz hf => (pss_cons (ps_if (PW.pt (pw_or (pt_val (pe_callB (kisXT (K := K) rfl hz hf) (by rfl) B.isinstance bt_isinstance (pa_cons (pv 8) (pa_cons (pe_tup (pa_cons (pe_globC rfl G.BadOpening) (pa_cons (pe_globC rfl G.BadQuestion) (pa_cons (pe_globC rfl G.BadRequest) (pa_cons (pe_globC rfl G.BadText) (pa_cons (pe_globC rfl G.BadTurn) pa_nil)))))) pa_nil)))) (pw_or1 (pt_not (pt_val (pe_callB (kisX (K := K) rfl hz hf) (by rfl) B.isinstance bt_isinstance (pa_cons (pv 8) (pa_cons (pe_bltn (v := .ty "ValueError") (u := .type "ValueError") (by rfl) G.ValueError (by decide +kernel) rfl) pa_nil)))))))) (pss_one (ps_ret pe_bl)) pss_nil)
      (pss_one (ps_ret (pe_and (pe_cmpR op_notN (pv 6) pe_non (nomark _)) (pe_and (pe_callB (kisX (K := K) rfl hz hf) (by rfl) B.isinstance bt_isinstance (pa_cons (pv 8) (pa_cons (pe_globC rfl G.BadGroup) pa_nil))) (pe_one (pe_cW W__law_same (show Rm 23 _ from ⟨hr.dp, hr.un⟩) (by omega) rfl (pa_cons (pe_xf XF.1 XF.2 hz hf (pv 8)) (pa_cons (pv 6) pa_nil)))))))))))
      (pss_cons (ps_if (PW.pt (pw_or (pt_cmpR op_notN (pv 6) pe_non (nomark _)) (pw_or1 (pt_not (pt_val (C8.pe_c C__law_same hr (by omega) rfl (pa_cons (pe_lst (pa_cons (kfld (K := K) rfl (pv 7)) (pa_cons (kfld (K := K) rfl (pv 7)) (pa_cons (kfld (K := K) rfl (pv 7)) pa_nil)))) (pa_cons (pe_lst (pa_cons (pv 2) (pa_cons (pv 3) (pa_cons (pe_callTy (ktupF (K := K) rfl) (by rfl) B.tuple bt_tuple (pa_cons (pv 4) pa_nil)) pa_nil)))) pa_nil)))))))) (pss_one (ps_ret pe_bl)) pss_nil)
      (pss_cons (ps_if (pt_not (pt_val (C8.pe_c C__law_same hr (by omega) rfl (pa_cons (pe_cmpR (op_eqM E0 hr (by omega)) (C8.pe_mk K_Group hr (by omega) rfl (pa_cons pe_int (pa_cons pe_int (pa_cons (pe_lst (pa_cons pe_int (pa_cons pe_int pa_nil))) pa_nil)))) (C8.pe_mk K_Group hr (by omega) rfl (pa_cons pe_int (pa_cons pe_int (pa_cons (pe_lst (pa_cons pe_int (pa_cons pe_int pa_nil))) pa_nil)))) (nomark _)) (pa_cons pe_bl pa_nil))))) (pss_one (ps_ret pe_bl)) pss_nil)
      (pss_cons (ps_if (PW.pt (pw_or (pt_not (pt_val (C8.pe_c C__law_same hr (by omega) rfl (pa_cons (pe_cmpR (op_eqM E0 hr (by omega)) (pv 7) (C8.pe_mk K_Group hr (by omega) rfl (pa_cons (pv 2) (pa_cons (pv 3) (pa_cons (pe_callTy (ktupF (K := K) rfl) (by rfl) B.tuple bt_tuple (pa_cons (pv 4) pa_nil)) pa_nil)))) (nomark _)) (pa_cons pe_bl pa_nil))))) (pw_or1 (pt_not (pt_val (C8.pe_c C__law_same hr (by omega) rfl (pa_cons (pe_cmpR (op_eqM E0 hr (by omega)) (pv 7) (C8.pe_mk K_Group hr (by omega) rfl (pa_cons (pv 2) (pa_cons (pv 3) (pa_cons (krevL (K := K) rfl (pv 4)) pa_nil)))) (nomark _)) (pa_cons pe_bl pa_nil)))))))) (pss_one (ps_ret pe_bl)) pss_nil)
      (pss_cons (ps_set (i := 9) sc_law.nd rfl (.inr rfl) (pe_lst (pa_cons pe_int pa_nil)))
      (pss_cons (ps_for PassesOwn.never rfl (pi_range1 rfl B.range (pa_cons (pe_op op_sub (pv 3) pe_int) pa_nil)) (pg_name (i := 10) sc_law.nd rfl (.inl rfl))
      (pss_one (ps_expr (pe_bm PySem.F.plainAttrs_list PySem.F.slot_list_append PySem.F.type_list_append mt_append (pv 9) (pa_cons (pe_op op_mod (pe_callTy call_int1 (by rfl) B.int bt_int (pa_cons (pe_op op_mul (pe_ix (kixs (K := K) rfl) (pv 9) (pv 10) (fun _ _ => rfl)) (pe_ix (kixs (K := K) rfl) (pv 4) pe_int (fun _ _ => rfl))) pa_nil)) (pv 2)) pa_nil)))))
      (pss_cons (ps_for PassesOwn.never rfl (pi_range1 rfl B.range (pa_cons pe_int pa_nil)) (pg_name (i := 11) sc_law.nd rfl (.inl rfl))
      (pss_cons (ps_set (i := 12) sc_law.nd rfl (.inl rfl) (pe_op op_sub (C8.pe_c C__law_draw hr (by omega) rfl (pa_cons (pv 1) (pa_cons (pe_op op_add (pv 2) pe_int) pa_nil))) pe_int))
      (pss_cons (ps_if (pt_not (pt_val (C8.pe_c C__law_same hr (by omega) rfl (pa_cons (C8.pe_mt M_is_element hr (by omega) (pv 7) (pa_cons (pv 12) pa_nil)) (pa_cons (pe_cmpR (kin (K := K) rfl) (pv 12) (pv 9) rfl) pa_nil))))) (pss_one (ps_ret pe_bl)) pss_nil)
      (pss_cons (ps_set (i := 13) sc_law.nd rfl (.inl rfl) (pe_ix (kixs (K := K) rfl) (pv 9) (C8.pe_c C__law_draw hr (by omega) rfl (pa_cons (pv 1) (pa_cons (pv 3) pa_nil))) (fun _ _ => rfl)))
      (pss_cons (ps_if (PW.pt (pw_or (pt_not (pt_val (C8.pe_c C__law_same hr (by omega) rfl (pa_cons (C8.pe_mt M_is_element hr (by omega) (pv 7) (pa_cons (pe_op op_sub (pv 13) (pv 2)) pa_nil)) (pa_cons pe_bl pa_nil))))) (pw_or1 (pt_not (pt_val (C8.pe_c C__law_same hr (by omega) rfl (pa_cons (C8.pe_mt M_is_element hr (by omega) (pv 7) (pa_cons (pe_op op_add (pv 13) (pv 2)) pa_nil)) (pa_cons pe_bl pa_nil)))))))) (pss_one (ps_ret pe_bl)) pss_nil)
      (pss_cons (ps_set (i := 14) sc_law.nd rfl (.inl rfl) (pe_op op_sub (C8.pe_c C__law_draw hr (by omega) rfl (pa_cons (pv 1) (pa_cons (pe_op op_mul pe_int (pv 3)) pa_nil))) (pe_op op_mul pe_int (pv 3))))
      (pss_cons (ps_if (pt_not (pt_val (C8.pe_c C__law_same hr (by omega) rfl (pa_cons (C8.pe_mt M_raised hr (by omega) (pv 7) (pa_cons (pv 13) (pa_cons (pv 14) pa_nil))) (pa_cons (C8.pe_c C__law_raised hr (by omega) rfl (pa_cons (pv 5) (pa_cons (pv 13) (pa_cons (pv 14) pa_nil)))) pa_nil))))) (pss_one (ps_ret pe_bl)) pss_nil)
      (pss_one (ps_if (pt_not (pt_val (C8.pe_c C__law_same hr (by omega) rfl (pa_cons (C8.pe_mt M_log hr (by omega) (pv 7) (pa_cons (pv 13) pa_nil)) (pa_cons (kbm (K := K) rfl PySem.F.plainAttrs_list PySem.F.slot_list_index PySem.F.type_list_index (kindex (K := K) rfl) (pv 9) (pa_cons (pv 13) pa_nil)) pa_nil))))) (pss_one (ps_ret pe_bl)) pss_nil)))))))))
      (pss_cons (ps_setLc (i := 15) (own := [("k", 10)]) (g := gName 10) (tt := tYes) rfl sc_law.nd rfl rfl (sw_true rfl rfl rfl (by decide +kernel)) (pi_range1 rfl B.range (pa_cons (C8.pe_c C__law_draw hr (by omega) rfl (pa_cons (pv 1) (pa_cons pe_int pa_nil))) pa_nil)) (blkOk_by (N := ["script", "pool", "p", "q", "bases", "good", "due", "group", "e", "members", "k", "turn", "number", "element", "exponent", "pairs"]) (sc := defScope s_law) (by decide +kernel))
        (fun _ _ _ _ _ => (pg_name (i := 10) sc_law.nd rfl (.inl rfl))) (fun _ _ _ _ _ => pts_nil)
        (fun _ _ _ _ _ => (pe_tupF (pa_cons (pe_ix (kixs (K := K) rfl) (pv 9) (C8.pe_c C__law_draw hr (by omega) rfl (pa_cons (pv 1) (pa_cons (pv 3) pa_nil))) (fun _ _ => rfl)) (pa_cons (pe_op op_sub (C8.pe_c C__law_draw hr (by omega) rfl (pa_cons (pv 1) (pa_cons (pe_op op_mul pe_int (pv 3)) pa_nil))) (pv 3)) pa_nil)))))
      (pss_one (ps_ret (C8.pe_c C__law_same hr (by omega) rfl (pa_cons (C8.pe_mt M_product hr (by omega) (pv 7) (pa_cons (pv 15) pa_nil)) (pa_cons (C8.pe_c C__law_product hr (by omega) rfl (pa_cons (pv 5) (pa_cons (pv 15) pa_nil))) pa_nil))))))))))))))))))), ?_⟩
  refine law_startB (ca := ca) (E := fun _ _ _ _ => False) hS z (fun po => (z_seq (z_asg (vs := [2, 3, 4]) (fun _ => (b_up fun _ => (a_call (a_cons a_var (a_cons (a_op pst_rv rok_I0 a_int (a_op pst_pk rok_ix (a_pk (a_tup (a_cons (a_call (a_cons a_var (a_cons a_int a_nil))) (a_cons a_int a_nil)))) (a_call (a_cons a_var (a_cons a_int a_nil))))) (a_cons a_int a_nil)))))) (fun _ => (g_tup (g_cons (g_name (by decide)) (g_cons (g_name (by decide)) (g_cons (g_name (by decide)) g_nil tot_name) tot_name) tot_name))))
      (z_seq (z_set fun _ => (b_up fun _ => (a_tup (a_cons a_var (a_cons a_var (a_cons a_var a_nil))))))
      (z_seq (z_asg (vs := [2, 3, 4]) (fun _ => (b_up fun _ => (a_call (a_cons a_var (a_cons a_var (a_cons a_var (a_cons a_var a_nil))))))) (fun _ => (g_tup (g_cons (g_name (by decide)) (g_cons (g_name (by decide)) (g_cons (g_name (by decide)) g_nil tot_name) tot_name) tot_name))))
      (z_cut (z_if (fun _ => (b_upT fun _ => (a_and (a_test (a_op pst_rv rok_eq (a_call (a_cons a_var (a_cons a_int a_nil))) a_int)) (a_test (a_op pst_rv rok_B0 (a_b1 u_len (a_pk a_var)) a_int))))) (z_asg (vs := [2, 3, 4]) (fun _ => (b_up fun _ => (a_call (a_cons a_var (a_cons a_var (a_cons a_var (a_cons a_var a_nil))))))) (fun _ => (g_tup (g_cons (g_name (by decide)) (g_cons (g_name (by decide)) (g_cons (g_name (by decide)) g_nil tot_name) tot_name) tot_name)))) z_next)
      (z_seq (z_set fun _ => (b_up fun _ => (a_call (a_cons a_var (a_cons a_var (a_cons a_var a_nil))))))
      (z_cut (z_try1 (i := 8) XK_law (fun _ => (z_set fun _ => (b_frzO (b_make2 (b_upA fun _ => (a_cons a_var (a_cons a_var (a_cons (a_fz (a_b1F u_listOf (a_pk a_var))) a_nil))))))))
      (fun a dd => (z_seq (z_if (fun _ => (b_or (b_tb (b_isXT XE (.cons (.cons (.cons (.cons (.cons ClsA.nil))))) (Nat.le_of_ble_eq_true rfl) (.cons (.own _) (.cons (.own _) (.cons (.own _) (.cons (.own _) (.cons (.own _) .nil))))) IX_BadOpening_BadQuestion_BadRequest_BadText_BadTurn)) (b_not (b_tb (b_isX XE (.ty _) IX_ValueError))))) (z_ret fun _ => (b_up fun _ => a_bl)) z_next)
      (z_ret fun _ => (b_andV (b_up fun _ => (a_op pst_rv rok_notN a_var a_non)) (b_andV (b_isX XE (.own _) IX_BadGroup) (b_call (b_cons (b_what (kk := 10) rfl) (b_cons (b_up fun _ => a_var) b_nil)))))))))
      (z_seq (z_if (fun _ => (b_upT fun _ => (a_or (a_test (a_op pst_rv rok_notN a_var a_non)) (a_not (a_tb (a_call (a_cons (a_fz (a_lst (a_cons (a_fld T0.cl T0.n_p (c := 0) (i := 0) rfl a_var) (a_cons (a_fld T0.cl T0.n_q (c := 0) (i := 1) rfl a_var) (a_cons (a_fld T0.cl T0.n_bases (c := 0) (i := 2) rfl a_var) a_nil))))) (a_cons (a_fz (a_lst (a_cons a_var (a_cons a_var (a_cons (a_b1 u_tupOf (a_pk a_var)) a_nil))))) a_nil)))))))) (z_ret fun _ => (b_up fun _ => a_bl)) z_next)
      (z_seq (z_if (fun _ => (b_upT fun _ => (a_not (a_tb (a_call (a_cons (a_op pst_rv rok_eqO (a_make (a_cons a_int (a_cons a_int (a_cons (a_fz (a_lst (a_cons a_int (a_cons a_int a_nil)))) a_nil)))) (a_make (a_cons a_int (a_cons a_int (a_cons (a_fz (a_lst (a_cons a_int (a_cons a_int a_nil)))) a_nil))))) (a_cons a_bl a_nil))))))) (z_ret fun _ => (b_up fun _ => a_bl)) z_next)
      (z_seq (z_if (fun _ => (b_upT fun _ => (a_or (a_not (a_tb (a_call (a_cons (a_op pst_rv rok_eqO a_var (a_make (a_cons a_var (a_cons a_var (a_cons (a_b1 u_tupOf (a_pk a_var)) a_nil))))) (a_cons a_bl a_nil))))) (a_not (a_tb (a_call (a_cons (a_op pst_rv rok_eqO a_var (a_make (a_cons a_var (a_cons a_var (a_cons (a_fz (a_revL (a_pk a_var))) a_nil))))) (a_cons a_bl a_nil)))))))) (z_ret fun _ => (b_up fun _ => a_bl)) z_next)
      (z_seq (z_setO fun _ => (b_upF fun _ => (a_lst (a_cons a_int a_nil))))
      (z_seq (z_for (vs := [10]) (fun _ => (b_upI fun _ => (i_ran1 (a_cons (a_op pst_rv rok_I0 a_var a_int) a_nil)))) (fun _ => (g_name (by decide)))
      (z_app fun _ => (b_up fun _ => (a_op pst_rv rok_I (a_b1 u_int (a_op pst_rv rok_I (a_op pst_pk rok_ix a_peek a_var) (a_op pst_pk rok_ix (a_pk a_var) a_int))) a_var))))
      (z_fz (i := 9) (z_seq (z_for (vs := [11]) (fun _ => (b_upI fun _ => (i_ran1 (a_cons a_int a_nil)))) (fun _ => (g_name (by decide)))
      (z_seq (z_set fun _ => (b_up fun _ => (a_op pst_rv rok_I0 (a_call (a_cons a_var (a_cons (a_op pst_rv rok_I0 a_var a_int) a_nil))) a_int)))
      (z_seq (z_if (fun _ => (b_upT fun _ => (a_not (a_tb (a_call (a_cons (a_meth (by decide) a_var (a_cons a_var a_nil)) (a_cons (a_op pst_rv rok_in a_var (a_pk a_var)) a_nil))))))) (z_ret fun _ => (b_up fun _ => a_bl)) z_next)
      (z_seq (z_set fun _ => (b_up fun _ => (a_op pst_pk rok_ix (a_pk a_var) (a_call (a_cons a_var (a_cons a_var a_nil))))))
      (z_seq (z_if (fun _ => (b_upT fun _ => (a_or (a_not (a_tb (a_call (a_cons (a_meth (by decide) a_var (a_cons (a_op pst_rv rok_I0 a_var a_var) a_nil)) (a_cons a_bl a_nil))))) (a_not (a_tb (a_call (a_cons (a_meth (by decide) a_var (a_cons (a_op pst_rv rok_I0 a_var a_var) a_nil)) (a_cons a_bl a_nil)))))))) (z_ret fun _ => (b_up fun _ => a_bl)) z_next)
      (z_seq (z_set fun _ => (b_up fun _ => (a_op pst_rv rok_I0 (a_call (a_cons a_var (a_cons (a_op pst_rv rok_I a_int a_var) a_nil))) (a_op pst_rv rok_I a_int a_var))))
      (z_seq (z_if (fun _ => (b_upT fun _ => (a_not (a_tb (a_call (a_cons (a_meth (by decide) a_var (a_cons a_var (a_cons a_var a_nil))) (a_cons (a_call (a_cons a_var (a_cons a_var (a_cons a_var a_nil)))) a_nil))))))) (z_ret fun _ => (b_up fun _ => a_bl)) z_next)
      (z_if (fun _ => (b_upT fun _ => (a_not (a_tb (a_call (a_cons (a_meth (by decide) a_var (a_cons a_var a_nil)) (a_cons (a_indexL (a_pk a_var) a_var) a_nil))))))) (z_ret fun _ => (b_up fun _ => a_bl)) z_next))))))))
      (z_seq (z_set fun _ => (b_up fun _ => (a_fz (a_lc (vs := [10]) (i_ran1 (a_cons (a_call (a_cons a_var (a_cons a_int a_nil))) a_nil)) (g_name (by decide)) a_yes (a_tup (a_cons (a_op pst_pk rok_ix (a_pk a_var) (a_call (a_cons a_var (a_cons a_var a_nil)))) (a_cons (a_op pst_rv rok_I0 (a_call (a_cons a_var (a_cons (a_op pst_rv rok_I a_int a_var) a_nil))) a_var) a_nil)))))))
      (z_ret fun _ => (b_up fun _ => (a_call (a_cons (a_meth (by decide) a_var (a_cons a_var a_nil)) (a_cons (a_call (a_cons a_var (a_cons a_var a_nil))) a_nil)))))))))))))))))))) ?_
  refine zseqG fun N hN => ?_
  walk_at "bf"
  refine draw (by omega) (by omega) fun v11 v110 v11b => ?_
  refine draw (by omega) (by omega) fun v2 v20 v2b => ?_
  obtain ⟨n, n0, n1, hn⟩ : ∃ n : Int, 0 ≤ n ∧ n < 11 ∧ ∀ P : Dat → Prop, P (.int n) → kIx (Dat.tup [.int v11, .int 0]) (.int v2) P := by
    have : v2 = 0 ∨ v2 = 1 := by omega
    rcases this with rfl | rfl
    · exact ⟨v11, v110, v11b, fun P h => h⟩
    · exact ⟨0, by omega, by omega, fun P h => h⟩
  refine hn _ ?_
  walk_at "bf"
  have fl : 0 < (tab.filter (okRow (2 + n) 3)).length := by
    have : n = 0 ∨ n = 1 ∨ n = 2 ∨ n = 3 ∨ n = 4 ∨ n = 5 ∨ n = 6 ∨ n = 7 ∨ n = 8 ∨ n = 9 ∨ n = 10 := by omega
    rcases this with rfl | rfl | rfl | rfl | rfl | rfl | rfl | rfl | rfl | rfl | rfl <;> decide
  refine ⟨2 + n, 3, rfl, by omega, by omega, fl, fun p q bs gg => ?_⟩
  have row := row_of gg.tb
  have ln := gg.ln
  have ok : GOk p q bs := by
    refine ⟨row.p3, row.pm, row.pp, row.qp, row.dv, by omega, by omega, fun b hb => ?_, gg.nd⟩
    obtain ⟨e, e1, e2, rfl⟩ := gg.po b hb
    exact root_el row e1 e2
  have p3 := row.p3
  have pm := row.pm
  have q3 := row.q3
  have qm := row.qm
  unfold lgD
  walk_at "bf"
  subst hN
  refine zseqG fun N hN => ?_
  walk_at "bf"
  subst hN
  refine zseqG fun N hN => ?_
  walk_at "bf"
  refine ⟨p, q, bs, rfl, by omega, by omega, fun p1 q1 bs1 c1 => ?_⟩
  walk_at "bf"
  subst hN
  have bl1 : bs1.length ≤ bs.length + 13 ∧ p1 ≤ 1001003 ∧ q1 ≤ 2000 := by
    cases c1 with
    | no => exact ⟨by omega, by omega, by omega⟩
    | p h => 
      refine ⟨by omega, ?_, by omega⟩
      simp only [List.mem_cons, List.mem_nil_iff, or_false] at h
      omega
    | q h =>
      refine ⟨by omega, by omega, ?_⟩
      simp only [List.mem_cons, List.mem_nil_iff, or_false] at h
      omega
    | b _ h => exact ⟨h, by omega, by omega⟩
  refine ⟨fun env M => ∃ p2 q2 bs2, Chg p1 q1 bs1 p2 q2 bs2 ∧ M = (fun _ => none) ∧ env = [.u, .d .pool, .d (.int p2), .d (.int q2), .d (.lst (bs2.map .int)), .d (.tup [.int p, .int q, .lst (bs.map .int)]), .u, .u, .u, .u, .u, .u, .u, .u, .u, .u], ?_, ?_⟩
  · walk_at "bf"
    refine draw (by omega) (by omega) fun v3 v30 v3b => ?_
    walk_at "bf"
    refine twoD (fun _ => ?_) (fun _ => ⟨p1, q1, bs1, .no, rfl⟩)
    refine twoD (fun h => ?_) (fun _ => ⟨p1, q1, bs1, .no, rfl⟩)
    rw [List.length_map] at h
    refine ⟨p1, q1, bs1, rfl, by omega, by omega, fun p2 q2 bs2 c2 => ?_⟩
    walk_at "bf"
    exact ⟨p2, q2, bs2, c2, rfl⟩
  · rintro env M ⟨p2, q2, bs2, c2, rfl, rfl⟩
    refine zseqG fun N hN => ?_
    walk_at "bf"
    have bl2 : bs2.length ≤ bs1.length + 13 ∧ q2 ≤ 4000 := by
      cases c2 with
      | no => exact ⟨by omega, by omega⟩
      | p h => exact ⟨by omega, by omega⟩
      | q h =>
        refine ⟨by omega, ?_⟩
        simp only [List.mem_cons, List.mem_nil_iff, or_false] at h
        omega
      | b _ h => exact ⟨h, by omega⟩
    refine wrong_any (by omega) (by omega) fun due hw => ?_
    subst hN
    refine ⟨fun env M => GOk p2 q2 bs2 ∧ due = .non ∧ M = (fun _ => none) ∧ env = [.u, .d .pool, .d (.int p2), .d (.int q2), .d (.lst (bs2.map .int)), .d (.tup [.int p, .int q, .lst (bs.map .int)]), .d .non, .d (grpD p2 q2 bs2), .u, .u, .u, .u, .u, .u, .u, .u], ?_, ?_⟩
    · unfold zTry
      walk_at "bf"
      intro x _
      refine grp_wr (k := false) hw Sto.put_s (by omega) (by omega) (fun e g => ?_) (fun ne => ?_)
      · subst e
        refine ⟨rfl, ?_⟩
        rw [Sto.put_s]
        walk_at "bf"
        refine ⟨rfl, g, ?_⟩
        refine ⟨?_, rfl⟩
        rw [Sto.put_put, Sto.put_put]
        funext b
        by_cases h : b = x
        · rw [h, Sto.put_s]
        · rw [Sto.put_n h]
      · unfold zTryX
        refine ⟨by simp, fun a dd ha hdd => ?_⟩
        refine zseqG fun N hN => ?_
        walk_at "bf"
        simp only [bIs]
        walk_at "bf"
        simp only [xQ]
        refine ⟨trivial, trivial, ?_⟩
        subst hN
        walk_at "bf"
        refine hw.notN ne ?_
        simp only [bIs]
        walk_at "bf"
        simp only [xQ]
        refine ⟨trivial, rfl, ?_⟩
        simp only [bWhat]
        walk_at "bf"
        simp only [xQ]
        exact ⟨trivial, due, due, rfl, hw.fl.2, hw.fl.1, fun b hb => by rw [hb.mpr rfl]⟩
    · rintro env M ⟨g, rfl, rfl, rfl⟩
      obtain ⟨ep, eq⟩ := chg_same row.pp (by omega) row.qp (by omega) row.dv ok.el (fun z => by rw [z, List.length_nil] at ln; omega) c1 c2 g
      clear hw c1 c2
      subst ep eq
      have l2 := g.l2
      have lm := g.lm
      unfold grpD
      refine zseqG fun N hN => ?_
      walk_at "bf"
      refine same_ok (pl_trip (plAll_map fun _ _ => rfl)) (ok_trip (okS_tup (by rw [List.length_map]; omega) (okS_map fun _ _ => okS_int _ _))) rfl ?_
      subst hN
      refine zseqG fun N hN => ?_
      walk_at "bf"
      refine ⟨false, 23, 11, [2, 3], rfl, gok_23, false, 47, 23, [2, 3], rfl, gok_47, ?_⟩
      refine eq_grp fun b hb => ?_
      have eb := bl_false hb (fun z => absurd z.1 (by decide))
      subst eb
      refine same_ok rfl (okS_bl _ _) rfl ?_
      subst hN
      refine zseqG fun N hN => ?_
      walk_at "bf"
      refine ⟨true, p2, q2, bs2, rfl, g, ?_⟩
      refine eq_grp fun b hb => ?_
      have eb := hb.mpr ⟨rfl, rfl, rfl⟩
      subst eb
      refine same_ok rfl (okS_bl _ _) rfl ?_
      rw [← List.map_reverse]
      refine ⟨false, p2, q2, bs2.reverse, rfl, g.rev, ?_⟩
      refine eq_grp fun b hb => ?_
      have eb := bl_false hb (fun z => rev_ne g.nd l2 z.2.2)
      subst eb
      refine same_ok rfl (okS_bl _ _) rfl ?_
      subst hN
      refine zseqG fun N hN => ?_
      walk_at "bf"
      subst hN
      refine zseqG fun N hN => ?_
      walk_at "bf"
      obtain ⟨b0, bs', rfl⟩ : ∃ b0 bs', bs2 = b0 :: bs' := by
        cases bs2 with
        | nil => exact absurd l2 (by simp)
        | cons b0 bs' => exact ⟨b0, bs', rfl⟩
      refine ⟨by omega, by omega, ?_⟩
      obtain ⟨m, hm⟩ : ∃ m : Nat, q2 = m + 1 := ⟨(q2 - 1).toNat, by omega⟩
      rw [show (q2 - 1).toNat = m by omega]
      subst hN
      refine forB_ran (fun i env M => M = (fun _ => none) ∧ ∃ y, env = [Sl.u, .d .pool, .d (.int p2), .d (.int q2), .d (.lst ((b0 :: bs').map .int)), .d (.tup [.int p2, .int q2, .lst (bs.map .int)]), .d .non, .d (.obj 0 [.int p2, .int q2, .tup ((b0 :: bs').map .int)]), .u, .o ((mems p2 b0 (i + 1)).map .int), y, .u, .u, .u, .u, .u]) ⟨rfl, .u, ?_⟩ ?_ ?_
      · rw [Nat.zero_add, mems_one (by omega)]
        rfl
      · rintro i env M hi ⟨rfl, y, rfl⟩ N hN
        walk_at "bf"
        refine ⟨by rw [List.length_map, mems_len]; omega, ?_⟩
        refine oa_at (Int.zero_add _) (mems_at (by omega)) ?_
        have eb := g.el b0 List.mem_cons_self
        have bd := emod_bd (a := b0 ^ i) (m := p2) (by omega)
        walk_at "bf"
        refine ⟨.inr ⟨by have := eb.2.1; omega, by have := eb.2.2.1; omega⟩, by omega, hN _ _ ⟨rfl, Sl.d (Dat.int (0 + (i : Int))), ?_⟩⟩
        have e : b0 ^ i % p2 * b0 % p2 = b0 ^ (i + 1) % p2 := by rw [Int.pow_succ, mul_emod_l]
        rw [mems_succ (n := i + 1), List.map_append, e]
        rfl
      · rintro env M ⟨rfl, y, rfl⟩
        refine zseqG fun N hN => ?_
        walk_at "bf"
        subst hN
        unfold zFz
        walk_at "bf"
        have b0el := g.el b0 List.mem_cons_self
        have el : ∀ x, El p2 q2 x ↔ x ∈ mems p2 b0 (m + 1) := fun x => by
          rw [el_iff row.pp row.qp b0el.2 b0el.1 x, show q2.toNat = m + 1 by omega]
        have inj : ∀ j k : Nat, j < m + 1 → k < m + 1 → b0 ^ j % p2 = b0 ^ k % p2 → j = k := fun j k hj hk e => by
          rcases Nat.lt_trichotomy j k with z | z | z
          · exact absurd e (pw_inj row.qp (by omega) b0el.2 b0el.1 z (by omega))
          · exact z
          · exact absurd e.symm (pw_inj row.qp (by omega) b0el.2 b0el.1 z (by omega))
        have ml : (mems p2 b0 (m + 1)).length = m + 1 := mems_len
        have mat : ∀ k, k < m + 1 → (mems p2 b0 (m + 1))[k]? = some (b0 ^ k % p2) := fun k h => mems_at h
        generalize mems p2 b0 (m + 1) = ms at el ml mat ⊢
        refine zseqG fun N hN => ?_
        walk_at "bf"
        refine ⟨by decide, by decide, ?_⟩
        refine forB_ran (fun i env M => M = (fun _ => none) ∧ ∃ y t nu e ex, env = [Sl.u, .d .pool, .d (.int p2), .d (.int q2), .d (.lst ((b0 :: bs').map .int)), .d (.tup [.int p2, .int q2, .lst (bs.map .int)]), .d .non, .d (.obj 0 [.int p2, .int q2, .tup ((b0 :: bs').map .int)]), .u, .d (.lst (ms.map .int)), y, t, nu, e, ex, .u]) ⟨rfl, _, _, _, _, _, rfl⟩ ?_ ?_
        · rintro i env M hi ⟨rfl, y, t, nu, e, ex, rfl⟩ N2 hN2
          refine zseqG fun N3 hN3 => ?_
          walk_at "bf"
          refine draw (by omega) (by omega) fun v v0 vb => ?_
          walk_at "bf"
          subst hN3
          refine zseqG fun N3 hN3 => ?_
          walk_at "bf"
          refine ⟨p2, q2, v - 1, b0 :: bs', rfl, ⟨by omega, by omega, by omega⟩, fun b hb => ?_⟩
          refine kIn_i ?_
          refine same_ok rfl (okS_bl _ _) (congrArg Dat.bl (Bool.eq_iff_iff.mpr (hb.trans ((el _).trans decide_eq_true_iff.symm)))) ?_
          subst hN3
          refine zseqG fun N3 hN3 => ?_
          walk_at "bf"
          refine draw (by omega) (by omega) fun j0 j00 j0b => ?_
          obtain ⟨j, rfl⟩ : ∃ j : Nat, j0 = j := ⟨j0.toNat, by omega⟩
          have bd := emod_bd (a := b0 ^ j) (m := p2) (by omega)
          walk_at "bf"
          refine oa_at rfl (mat j (by omega)) ?_
          subst hN3
          refine zseqG fun N3 hN3 => ?_
          walk_at "bf"
          refine ⟨p2, q2, _, b0 :: bs', rfl, ⟨by omega, by omega, by omega⟩, fun b hb => ?_⟩
          have e1 := bl_false hb (fun z => by have := z.1; omega)
          subst e1
          refine same_ok rfl (okS_bl _ _) rfl ?_
          refine ⟨p2, q2, _, b0 :: bs', rfl, ⟨by omega, by omega, by omega⟩, fun b hb => ?_⟩
          have e1 := bl_false hb (fun z => by have := z.2.1; omega)
          subst e1
          refine same_ok rfl (okS_bl _ _) rfl ?_
          subst hN3
          refine zseqG fun N3 hN3 => ?_
          walk_at "bf"
          refine ⟨.inl ⟨by omega, by omega⟩, ?_⟩
          refine draw (by omega) (by omega) fun x x0 xb => ?_
          walk_at "bf"
          refine ⟨.inl ⟨by omega, by omega⟩, ?_⟩
          subst hN3
          refine zseqG fun N3 hN3 => ?_
          walk_at "bf"
          refine ⟨_, _, p2, q2, b0 :: bs', rfl, by omega, by omega, by omega, ?_⟩
          refine ⟨p2, q2, _, _, bs, rfl, by omega, by omega, by omega, by omega, ?_⟩
          refine same_ok rfl (okS_int _ _) rfl ?_
          subst hN3
          walk_at "bf"
          refine ⟨p2, q2, b0, _, bs', rfl, ⟨by omega, by omega, by omega, by omega, by have := b0el.2.1; omega, b0el.2.2.1⟩, fun k hk e mn => ?_, fun no => absurd rfl (no j (by omega))⟩
          obtain rfl := inj k j (by omega) (by omega) e
          unfold aIndexL
          walk_at "bf"
          refine ⟨rfl, all_flat, k, by rw [List.getElem?_map, mat k (by omega)]; rfl, fun m' hm' z => ?_, ?_⟩
          · rw [List.getElem?_map, mat m' (by omega)] at z
            have z : some (Dat.int (b0 ^ m' % p2)) = some (Dat.int (b0 ^ k % p2)) := z
            cases inj m' k (by omega) (by omega) (by injection z with z; injection z)
            omega
          · refine same_ok rfl (okS_int _ _) rfl (hN2 _ _ ⟨rfl, _, _, _, _, _, rfl⟩)
        · rintro env M ⟨rfl, y, t, nu, e, ex, rfl⟩
          subst hN
          dsimp only
          refine zseqG fun N hN => ?_
          walk_at "bf"
          refine draw (by omega) (by omega) fun c c0 cb => ?_
          walk_at "bf"
          refine ⟨by omega, by omega, by rw [List.length_map, List.length_range]; omega, ?_⟩
          refine lcA_relL (f := fun (i : Nat) => Dat.int (0 + (i : Int))) (fun _ y => ∃ pr : Int × Int, y = prT pr) (fun i _ Q2 hQ => ?_) (fun ys hp => ?_)
          · walk_at "bf"
            refine draw (by omega) (by omega) fun j0 j00 j0b => ?_
            walk_at "bf"
            refine oa_any (by omega) (by rw [ml]; omega) fun x _ => ?_
            refine ⟨.inl ⟨by omega, by omega⟩, ?_⟩
            refine draw (by omega) (by omega) fun u u0 ub => ?_
            walk_at "bf"
            exact hQ _ ⟨(x, u - q2), rfl⟩
          · obtain ⟨prs, rfl⟩ := prs_of hp
            subst hN
            walk_at "bf"
            refine ⟨p2, q2, b0 :: bs', prs, rfl, by omega, by omega, by omega, ?_⟩
            refine ⟨p2, q2, bs, prs, rfl, by omega, by omega, by omega, by omega, ?_⟩
            exact same_end rfl (okS_int _ _) rfl rfl
end

/-- an error of the class at S is what «except D» names -/
theorem exm_of {K : PySem.W.Frag} {S D : Addr} (h1 : PySem.W.subIn K (.ref D) (.type "BaseException") = some true) (h2 : PySem.W.isClsIn K D = true) (h3 : PySem.W.typeIn K (.ref D) = some (.type "type")) (h4 : PySem.W.subIn K (.ref S) (.ref D) = some true) :
    PySem.W.exmOne K (.ref S) (.ref D) = some true := by
  have e1 : (PySem.W.subIn K (.ref D) (.type "BaseException") == some true) = true := by rw [h1] <;> rfl
  have h2' : (PySem.W.clsIn K D).isSome = true := h2
  have e2 : ((PySem.W.clsIn K D).isSome && PySem.W.typeIn K (.ref D) == some (.type "type")) = true := by rw [h2', h3] <;> rfl
  show (if (PySem.W.subIn K (.ref D) (.type "BaseException") == some true) = true then (if ((PySem.W.clsIn K D).isSome && PySem.W.typeIn K (.ref D) == some (.type "type")) = true then PySem.W.subIn K (.ref S) (.ref D) else none) else none) = some true
  rw [if_pos e1, if_pos e2]
  exact h4

theorem beq_ref {a b : Addr} : (Value.ref a == Value.ref b) = decide (a = b) := by
  by_cases h : a = b
  · subst h
    rw [decide_eq_true rfl]
    exact beq_self_eq_true (Value.ref a)
  · rw [decide_eq_false h]
    exact beq_eq_false_iff_ne.mpr fun z => h (by cases z; rfl)
theorem kit_self {K : PySem.W.Frag} {S : Addr} : PySem.W.kitOne K (.ref S) (.ref S) = some true := by
  unfold PySem.W.kitOne
  rw [beq_ref, decide_eq_true rfl]
  rfl
theorem kit_no {K : PySem.W.Frag} {S D : Addr} (h1 : PySem.W.isClsIn K D = true) (h2 : PySem.W.typeIn K (.ref D) = some (.type "type")) (h3 : PySem.W.subIn K (.ref S) (.ref D) = some false) (h4 : PySem.W.subIn K (.ref S) (.ref S) = some true) :
    PySem.W.kitOne K (.ref S) (.ref D) = some false := by
  have ne : ¬ S = D := fun z => by
    subst z
    rw [h3] at h4
    cases h4
  have h1' : (PySem.W.clsIn K D).isSome = true := h1
  have e2 : ((PySem.W.clsIn K D).isSome && PySem.W.typeIn K (.ref D) == some (.type "type")) = true := by rw [h1', h2] <;> rfl
  unfold PySem.W.kitOne PySem.W.kitCls
  rw [beq_ref, decide_eq_false ne, if_neg Bool.false_ne_true]
  show (if ((PySem.W.clsIn K D).isSome && PySem.W.typeIn K (.ref D) == some (.type "type")) = true then PySem.W.subIn K (.ref S) (.ref D) else none) = some false
  rw [if_pos e2]
  exact h3

theorem cal_weak {P : Program} {w : World} {K : PySem.W.Frag} {mg : Str → Option Value} {base : Heap} {k : Nat} {x : Str} {sp sp' : Sp} {dvs : List V} (h : ∀ vs H Q E, sp' vs H Q E → sp vs H Q E) (C : C8.Cal P w K mg base k x sp dvs) : C8.Cal P w K mg base k x sp' dvs := by
  obtain ⟨f, fd, ps, ds, F, a, b, c, d⟩ := C.ex
  exact ⟨⟨f, fd, ps, ds, fn_weak h F, a, b, c, d⟩⟩
/-! ### towards the end -/
def caE (C0 CG : Addr) : Nat → Addr := fun k => if k = 10 then CG else C0
theorem fn_unI2 {P : Program} {w : World} {K : PySem.W.Frag} {mg : Str → Option Value} {base : Heap} {ca : Nat → Addr} {c : Nat} {CX : CXT} {j : Nat} {f : Addr} {fd : FuncData} {ps : List Str} {κ : Type} {a : κ → BSp} (h : ∀ i, FnOk P w K mg base CX j f fd ps (toSpI2 K ca c (a i))) : FnOk P w K mg base CX j f fd ps (toSpI2 K ca c fun ds M X P => ∃ i, a i ds M X P) := by
  have ex : ∀ {vs : List V} {H : Hp} {Q : VK} {E : XK}, toSpI2 K ca c (fun ds M X P => ∃ i, a i ds M X P) vs H Q E → ∃ i, toSpI2 K ca c (a i) vs H Q E := fun {vs H Q E} q => by
    obtain ⟨po, F, H1, x, dx, ws, M, ds, P, X, e1, e2, hx, hdx, hne, ok, r, ⟨i, ha⟩, z⟩ := q
    exact ⟨i, po, F, H1, x, dx, ws, M, ds, P, X, e1, e2, hx, hdx, hne, ok, r, ha, z⟩
  refine ⟨fun vs H Q E q => ?_, fun A outer s H cl vs us Q E rm e0 hb rv q => ?_⟩
  · obtain ⟨i, q⟩ := ex q
    exact (h i).len vs H Q E q
  · obtain ⟨i, q⟩ := ex q
    exact (h i).run A outer s H cl vs us Q E rm e0 hb rv q
theorem kit_ty {K : PySem.W.Frag} {S : Addr} {T : String} (h1 : PySem.W.kitMeta T = true) (h2 : PySem.W.subIn K (.ref S) (.type T) = some true) : PySem.W.kitOne K (.ref S) (.type T) = some true := by
  unfold PySem.W.kitOne PySem.W.kitCls
  split
  · rfl
  · show (if PySem.W.kitMeta T = true then PySem.W.subIn K (.ref S) (.type T) else none) = some true
    rw [if_pos h1]
    exact h2
theorem kit_cons {K : PySem.W.Frag} {t c : Value} {r : List Value} (h : PySem.W.kitOne K t c = some false) (k : PySem.W.kitAny K t r = some false) : PySem.W.kitAny K t (c :: r) = some false := by
  unfold PySem.W.kitAny
  rw [h]
  exact k
theorem fn_ty {K : PySem.W.Frag} {f : Addr} (h : PySem.W.isFn K (.ref f) = true) : PySem.W.typeIn K (.ref f) = some (.type "function") := by
  unfold PySem.W.isFn at h
  exact eq_of_beq h

/-! ### the end -/
set_option maxHeartbeats 0 in
theorem all_mk {l : PySem.W.OpenLaw} {w : World} {K : PySem.W.Frag} {h : Heap} {mg : Str → Option Value} {fa f0 f1 f2 f3 f4 f5 f6 f7 f8 f9 f10 f11 f12 f13 f14 f15 f16 f17 f18 f19 f20 f21 f22 : Addr} {C0 CG CV CO CQ CR CT CU : Addr} {tS tL tF tM : Tok} {xnm xq : Str} {xN : Addr} {xbs xbm xsub : List Value} {xsn : List Str} {xab : Bool} {xcol : Option Bool} {xdd : Option Addr} {xk0 xk1 xk2 xk3 xk5 : Option Value} (X : K.In h) (G : h.Ns mainGlobals mg) (hfa : mg "law" = some (.ref fa))
    {od0 an0 od1 an1 od2 an2 od3 an3 od4 an4 od5 an5 od6 an6 od7 an7 od8 an8 od9 an9 od10 an10 od11 an11 od12 an12 od13 an13 od14 an14 od15 an15 od16 an16 od17 an17 od18 an18 od19 an19 od20 an20 od21 an21 od22 an22 : Option Addr} {sl0 sl1 sl2 sl3 sl4 sl5 sl6 sl7 sl8 sl9 sl10 sl11 sl12 sl13 sl14 sl15 sl16 sl17 sl18 sl19 sl20 sl21 sl22 : Array (Option Value)} {oc0 kV0 dc0 pm0 cd0 ct0 oc1 kV1 dc1 pm1 cd1 ct1 oc2 kV2 dc2 pm2 cd2 ct2 oc3 kV3 dc3 pm3 cd3 ct3 oc4 kV4 dc4 pm4 cd4 ct4 oc5 kV5 dc5 pm5 cd5 ct5 oc6 kV6 dc6 pm6 cd6 ct6 oc7 kV7 dc7 pm7 cd7 ct7 oc8 kV8 dc8 pm8 cd8 ct8 oc9 kV9 dc9 pm9 cd9 ct9 oc10 kV10 dc10 pm10 cd10 ct10 oc11 kV11 dc11 pm11 cd11 ct11 oc12 kV12 dc12 pm12 cd12 ct12 oc13 kV13 dc13 pm13 cd13 ct13 oc14 kV14 dc14 pm14 cd14 ct14 oc15 kV15 dc15 pm15 cd15 ct15 oc16 kV16 dc16 pm16 cd16 ct16 oc17 kV17 dc17 pm17 cd17 ct17 oc18 kV18 dc18 pm18 cd18 ct18 oc19 kV19 dc19 pm19 cd19 ct19 oc20 kV20 dc20 pm20 cd20 ct20 oc21 kV21 dc21 pm21 cd21 ct21 oc22 kV22 dc22 pm22 cd22 ct22 : Value}
    (a_C0 : PySem.W.nsIn K mainGlobals "Group" = some (some (.ref C0)))
    (pg_C0 : PySem.W.plainGet K C0 Str.empty = true)
    (hd_C0 : PySem.W.hasDictIn K C0 = true)
    (po_C0 : PySem.W.plainOver K C0 = true)
    (sa_C0 : PySem.W.findIn K (.ref C0) "__setattr__" = some (some (.builtin "object.__setattr__")))
    (mk_C0 : PySem.W.makesIn K C0 = true)
    (kc_C0 : PySem.W.keepIn K (.ref C0) = true)
    (nP : PySem.W.findIn K (.ref C0) "p" = some none)
    (nQ : PySem.W.findIn K (.ref C0) "q" = some none)
    (nB : PySem.W.findIn K (.ref C0) "bases" = some none)
    (gS : PySem.W.nsIn K mainGlobals "SMALLEST_P" = some (some (.int 3 tS)))
    (gL : PySem.W.nsIn K mainGlobals "LARGEST_P" = some (some (.int 1000000 tL)))
    (gF : PySem.W.nsIn K mainGlobals "FEWEST_BASES" = some (some (.int 2 tF)))
    (gM : PySem.W.nsIn K mainGlobals "MOST_BASES" = some (some (.int 12 tM)))
    (ha0 : PySem.W.findIn K (.ref C0) "__class__" = some (some (.builtin "object.__class__")))
    (hn1 : PySem.W.specialIn K (.builtin "object.__class__") "__get__" = some (some (.builtin "getset_descriptor.__get__")))
    (ht1 : PySem.W.takesIn K (.builtin "object.__class__") = some true)
    (hm0 : PySem.W.mroIn K C0 (.type "object") = some true)
    (a_CV : PySem.W.nsIn K mainGlobals "VouchError" = some (some (.ref CV)))
    (a_CO : PySem.W.nsIn K mainGlobals "BadOpening" = some (some (.ref CO)))
    (a_CG : PySem.W.nsIn K mainGlobals "BadGroup" = some (some (.ref CG)))
    (a_CQ : PySem.W.nsIn K mainGlobals "BadQuestion" = some (some (.ref CQ)))
    (a_CR : PySem.W.nsIn K mainGlobals "BadRequest" = some (some (.ref CR)))
    (a_CT : PySem.W.nsIn K mainGlobals "BadText" = some (some (.ref CT)))
    (a_CU : PySem.W.nsIn K mainGlobals "BadTurn" = some (some (.ref CU)))
    (z_VE : PySem.W.nsIn K mainGlobals "ValueError" = some none)
    (xlk : K.lookup CG = some (excClassObj xnm xq CG xN xbs xbm true xsn xsub xab xcol xdd xk0 xk1 xk2 xk3 xk5 "ValueError.__new__"))
    (xrf : PySem.HandSPX.refsVE xbm = true)
    (xsa : PySem.W.findIn K (.ref CG) "__setattr__" = some (some (.builtin "object.__setattr__")))
    (xty : PySem.W.typeIn K (.ref CG) = some (.type "type"))
    (xkc : PySem.W.keepIn K (.ref CG) = true)
    (xwh : PySem.W.findIn K (.ref CG) "what" = some none)
    (xbe : PySem.W.subIn K (.ref CG) (.type "BaseException") = some true)
    (xve : PySem.W.subIn K (.ref CG) (.type "ValueError") = some true)
    (xga : PySem.W.findIn K (.ref CG) "__getattribute__" = some (some (.builtin "BaseException.__getattribute__")))
    (xgg : PySem.W.findIn K (.ref CG) "__getattr__" = some none)
    (xhd : PySem.W.hasDictIn K CG = true)
    (xha : PySem.W.findIn K (.ref CG) "__class__" = some (some (.builtin "object.__class__")))
    (xhm : PySem.W.mroIn K CG (.type "object") = some true)
    (bV : PySem.W.subIn K (.ref CV) (.type "BaseException") = some true)
    (iV : PySem.W.isClsIn K CV = true)
    (tV : PySem.W.typeIn K (.ref CV) = some (.type "type"))
    (sV : PySem.W.subIn K (.ref CG) (.ref CV) = some true)
    (sG : PySem.W.subIn K (.ref CG) (.ref CG) = some true)
    (iO : PySem.W.isClsIn K CO = true)
    (tO : PySem.W.typeIn K (.ref CO) = some (.type "type"))
    (sO : PySem.W.subIn K (.ref CG) (.ref CO) = some false)
    (iQ : PySem.W.isClsIn K CQ = true)
    (tQ : PySem.W.typeIn K (.ref CQ) = some (.type "type"))
    (sQ : PySem.W.subIn K (.ref CG) (.ref CQ) = some false)
    (iR : PySem.W.isClsIn K CR = true)
    (tR : PySem.W.typeIn K (.ref CR) = some (.type "type"))
    (sR : PySem.W.subIn K (.ref CG) (.ref CR) = some false)
    (iT : PySem.W.isClsIn K CT = true)
    (tT : PySem.W.typeIn K (.ref CT) = some (.type "type"))
    (sT : PySem.W.subIn K (.ref CG) (.ref CT) = some false)
    (iU : PySem.W.isClsIn K CU = true)
    (tU : PySem.W.typeIn K (.ref CU) = some (.type "type"))
    (sU : PySem.W.subIn K (.ref CG) (.ref CU) = some false)
    (a0 : PySem.W.nsIn K mainGlobals "power" = some (some (.ref f0)))
    (l0 : K.lookup f0 = some ⟨oc0, od0, .func (PySem.W.fnOf "power" "power" (defArgs s_power) (defBody s_power) (defScope s_power) .none kV0 dc0 pm0 an0 cd0 ct0), sl0⟩) (c0 : PySem.W.codeIn K cd0 "power" = true) (k0 : PySem.W.keepIn K (.ref f0) = true)
    (a1 : PySem.W.nsIn K mainGlobals "is_prime" = some (some (.ref f1)))
    (l1 : K.lookup f1 = some ⟨oc1, od1, .func (PySem.W.fnOf "is_prime" "is_prime" (defArgs s_is_prime) (defBody s_is_prime) (defScope s_is_prime) .none kV1 dc1 pm1 an1 cd1 ct1), sl1⟩) (c1 : PySem.W.codeIn K cd1 "is_prime" = true) (k1 : PySem.W.keepIn K (.ref f1) = true)
    (a2 : PySem.W.nsIn K mainGlobals "_is_root" = some (some (.ref f2)))
    (l2 : K.lookup f2 = some ⟨oc2, od2, .func (PySem.W.fnOf "_is_root" "_is_root" (defArgs s__is_root) (defBody s__is_root) (defScope s__is_root) .none kV2 dc2 pm2 an2 cd2 ct2), sl2⟩) (c2 : PySem.W.codeIn K cd2 "_is_root" = true) (k2 : PySem.W.keepIn K (.ref f2) = true)
    (a3 : PySem.W.nsIn K mainGlobals "_check_primes" = some (some (.ref f3)))
    (l3 : K.lookup f3 = some ⟨oc3, od3, .func (PySem.W.fnOf "_check_primes" "_check_primes" (defArgs s__check_primes) (defBody s__check_primes) (defScope s__check_primes) .none kV3 dc3 pm3 an3 cd3 ct3), sl3⟩) (c3 : PySem.W.codeIn K cd3 "_check_primes" = true) (k3 : PySem.W.keepIn K (.ref f3) = true)
    (a4 : PySem.W.nsIn K mainGlobals "_check_bases" = some (some (.ref f4)))
    (l4 : K.lookup f4 = some ⟨oc4, od4, .func (PySem.W.fnOf "_check_bases" "_check_bases" (defArgs s__check_bases) (defBody s__check_bases) (defScope s__check_bases) .none kV4 dc4 pm4 an4 cd4 ct4), sl4⟩) (c4 : PySem.W.codeIn K cd4 "_check_bases" = true) (k4 : PySem.W.keepIn K (.ref f4) = true)
    (a5 : PySem.W.findIn K (.ref CG) "__init__" = some (some (.ref f5))) (i5 : PySem.W.isFn K (.ref f5) = true)
    (l5 : K.lookup f5 = some ⟨oc5, od5, .func (PySem.W.fnOf "__init__" "BadGroup.__init__" (defArgs s_BadGroup___init__) (defBody s_BadGroup___init__) (defScope s_BadGroup___init__) .none kV5 dc5 pm5 an5 cd5 ct5), sl5⟩) (c5 : PySem.W.codeIn K cd5 "BadGroup.__init__" = true) (k5 : PySem.W.keepIn K (.ref f5) = true)
    (a6 : PySem.W.findIn K (.ref C0) "__init__" = some (some (.ref f6))) (i6 : PySem.W.isFn K (.ref f6) = true)
    (l6 : K.lookup f6 = some ⟨oc6, od6, .func (PySem.W.fnOf "__init__" "Group.__init__" (defArgs s_Group___init__) (defBody s_Group___init__) (defScope s_Group___init__) .none kV6 dc6 pm6 an6 cd6 ct6), sl6⟩) (c6 : PySem.W.codeIn K cd6 "Group.__init__" = true) (k6 : PySem.W.keepIn K (.ref f6) = true)
    (a7 : PySem.W.findIn K (.ref C0) "__eq__" = some (some (.ref f7))) (i7 : PySem.W.isFn K (.ref f7) = true)
    (l7 : K.lookup f7 = some ⟨oc7, od7, .func (PySem.W.fnOf "__eq__" "Group.__eq__" (defArgs s_Group___eq__) (defBody s_Group___eq__) (defScope s_Group___eq__) .none kV7 dc7 pm7 an7 cd7 ct7), sl7⟩) (c7 : PySem.W.codeIn K cd7 "Group.__eq__" = true) (k7 : PySem.W.keepIn K (.ref f7) = true)
    (a8 : PySem.W.findIn K (.ref C0) "is_element" = some (some (.ref f8))) (i8 : PySem.W.isFn K (.ref f8) = true)
    (l8 : K.lookup f8 = some ⟨oc8, od8, .func (PySem.W.fnOf "is_element" "Group.is_element" (defArgs s_Group_is_element) (defBody s_Group_is_element) (defScope s_Group_is_element) .none kV8 dc8 pm8 an8 cd8 ct8), sl8⟩) (c8 : PySem.W.codeIn K cd8 "Group.is_element" = true) (k8 : PySem.W.keepIn K (.ref f8) = true)
    (a9 : PySem.W.findIn K (.ref C0) "raised" = some (some (.ref f9))) (i9 : PySem.W.isFn K (.ref f9) = true)
    (l9 : K.lookup f9 = some ⟨oc9, od9, .func (PySem.W.fnOf "raised" "Group.raised" (defArgs s_Group_raised) (defBody s_Group_raised) (defScope s_Group_raised) .none kV9 dc9 pm9 an9 cd9 ct9), sl9⟩) (c9 : PySem.W.codeIn K cd9 "Group.raised" = true) (k9 : PySem.W.keepIn K (.ref f9) = true)
    (a10 : PySem.W.findIn K (.ref C0) "product" = some (some (.ref f10))) (i10 : PySem.W.isFn K (.ref f10) = true)
    (l10 : K.lookup f10 = some ⟨oc10, od10, .func (PySem.W.fnOf "product" "Group.product" (defArgs s_Group_product) (defBody s_Group_product) (defScope s_Group_product) .none kV10 dc10 pm10 an10 cd10 ct10), sl10⟩) (c10 : PySem.W.codeIn K cd10 "Group.product" = true) (k10 : PySem.W.keepIn K (.ref f10) = true)
    (a11 : PySem.W.findIn K (.ref C0) "log" = some (some (.ref f11))) (i11 : PySem.W.isFn K (.ref f11) = true)
    (l11 : K.lookup f11 = some ⟨oc11, od11, .func (PySem.W.fnOf "log" "Group.log" (defArgs s_Group_log) (defBody s_Group_log) (defScope s_Group_log) .none kV11 dc11 pm11 an11 cd11 ct11), sl11⟩) (c11 : PySem.W.codeIn K cd11 "Group.log" = true) (k11 : PySem.W.keepIn K (.ref f11) = true)
    (a12 : PySem.W.nsIn K mainGlobals "_law_pool" = some (some (.ref f12)))
    (l12 : K.lookup f12 = some ⟨oc12, od12, .func (PySem.W.fnOf "_law_pool" "_law_pool" (defArgs s__law_pool) (defBody s__law_pool) (defScope s__law_pool) .none kV12 dc12 pm12 an12 cd12 ct12), sl12⟩) (c12 : PySem.W.codeIn K cd12 "_law_pool" = true) (k12 : PySem.W.keepIn K (.ref f12) = true)
    (a13 : PySem.W.nsIn K mainGlobals "_law_draw" = some (some (.ref f13)))
    (l13 : K.lookup f13 = some ⟨oc13, od13, .func (PySem.W.fnOf "_law_draw" "_law_draw" (defArgs s__law_draw) (defBody s__law_draw) (defScope s__law_draw) .none kV13 dc13 pm13 an13 cd13 ct13), sl13⟩) (c13 : PySem.W.codeIn K cd13 "_law_draw" = true) (k13 : PySem.W.keepIn K (.ref f13) = true)
    (a14 : PySem.W.nsIn K mainGlobals "_law_same" = some (some (.ref f14)))
    (l14 : K.lookup f14 = some ⟨oc14, od14, .func (PySem.W.fnOf "_law_same" "_law_same" (defArgs s__law_same) (defBody s__law_same) (defScope s__law_same) .none kV14 dc14 pm14 an14 cd14 ct14), sl14⟩) (c14 : PySem.W.codeIn K cd14 "_law_same" = true) (k14 : PySem.W.keepIn K (.ref f14) = true)
    (a15 : PySem.W.nsIn K mainGlobals "_law_power" = some (some (.ref f15)))
    (l15 : K.lookup f15 = some ⟨oc15, od15, .func (PySem.W.fnOf "_law_power" "_law_power" (defArgs s__law_power) (defBody s__law_power) (defScope s__law_power) .none kV15 dc15 pm15 an15 cd15 ct15), sl15⟩) (c15 : PySem.W.codeIn K cd15 "_law_power" = true) (k15 : PySem.W.keepIn K (.ref f15) = true)
    (a16 : PySem.W.nsIn K mainGlobals "_law_raised" = some (some (.ref f16)))
    (l16 : K.lookup f16 = some ⟨oc16, od16, .func (PySem.W.fnOf "_law_raised" "_law_raised" (defArgs s__law_raised) (defBody s__law_raised) (defScope s__law_raised) .none kV16 dc16 pm16 an16 cd16 ct16), sl16⟩) (c16 : PySem.W.codeIn K cd16 "_law_raised" = true) (k16 : PySem.W.keepIn K (.ref f16) = true)
    (a17 : PySem.W.nsIn K mainGlobals "_law_product" = some (some (.ref f17)))
    (l17 : K.lookup f17 = some ⟨oc17, od17, .func (PySem.W.fnOf "_law_product" "_law_product" (defArgs s__law_product) (defBody s__law_product) (defScope s__law_product) .none kV17 dc17 pm17 an17 cd17 ct17), sl17⟩) (c17 : PySem.W.codeIn K cd17 "_law_product" = true) (k17 : PySem.W.keepIn K (.ref f17) = true)
    (a18 : PySem.W.nsIn K mainGlobals "_law_group" = some (some (.ref f18)))
    (l18 : K.lookup f18 = some ⟨oc18, od18, .func (PySem.W.fnOf "_law_group" "_law_group" (defArgs s__law_group) (defBody s__law_group) (defScope s__law_group) .none kV18 dc18 pm18 an18 cd18 ct18), sl18⟩) (c18 : PySem.W.codeIn K cd18 "_law_group" = true) (k18 : PySem.W.keepIn K (.ref f18) = true)
    (a19 : PySem.W.nsIn K mainGlobals "_law_prime" = some (some (.ref f19)))
    (l19 : K.lookup f19 = some ⟨oc19, od19, .func (PySem.W.fnOf "_law_prime" "_law_prime" (defArgs s__law_prime) (defBody s__law_prime) (defScope s__law_prime) .none kV19 dc19 pm19 an19 cd19 ct19), sl19⟩) (c19 : PySem.W.codeIn K cd19 "_law_prime" = true) (k19 : PySem.W.keepIn K (.ref f19) = true)
    (a20 : PySem.W.nsIn K mainGlobals "_law_wrong" = some (some (.ref f20)))
    (l20 : K.lookup f20 = some ⟨oc20, od20, .func (PySem.W.fnOf "_law_wrong" "_law_wrong" (defArgs s__law_wrong) (defBody s__law_wrong) (defScope s__law_wrong) .none kV20 dc20 pm20 an20 cd20 ct20), sl20⟩) (c20 : PySem.W.codeIn K cd20 "_law_wrong" = true) (k20 : PySem.W.keepIn K (.ref f20) = true)
    (a21 : PySem.W.nsIn K mainGlobals "_law_changed" = some (some (.ref f21)))
    (l21 : K.lookup f21 = some ⟨oc21, od21, .func (PySem.W.fnOf "_law_changed" "_law_changed" (defArgs s__law_changed) (defBody s__law_changed) (defScope s__law_changed) .none kV21 dc21 pm21 an21 cd21 ct21), sl21⟩) (c21 : PySem.W.codeIn K cd21 "_law_changed" = true) (k21 : PySem.W.keepIn K (.ref f21) = true)
    (a22 : PySem.W.nsIn K mainGlobals "law" = some (some (.ref f22)))
    (l22 : K.lookup f22 = some ⟨oc22, od22, .func (PySem.W.fnOf "law" "law" (defArgs s_law) (defBody s_law) (defScope s_law) .none kV22 dc22 pm22 an22 cd22 ct22), sl22⟩) (c22 : PySem.W.codeIn K cd22 "law" = true) (k22 : PySem.W.keepIn K (.ref f22) = true)
    (z_isinstance : PySem.W.nsIn K mainGlobals "isinstance" = some none)
    (z_len : PySem.W.nsIn K mainGlobals "len" = some none)
    (z_sum : PySem.W.nsIn K mainGlobals "sum" = some none)
    (z_max : PySem.W.nsIn K mainGlobals "max" = some none)
    (z_min : PySem.W.nsIn K mainGlobals "min" = some none)
    (z_abs : PySem.W.nsIn K mainGlobals "abs" = some none)
    (z_any : PySem.W.nsIn K mainGlobals "any" = some none)
    (z_all : PySem.W.nsIn K mainGlobals "all" = some none)
    (z_sorted : PySem.W.nsIn K mainGlobals "sorted" = some none)
    (z_int : PySem.W.nsIn K mainGlobals "int" = some none)
    (z_bool : PySem.W.nsIn K mainGlobals "bool" = some none)
    (z_str : PySem.W.nsIn K mainGlobals "str" = some none)
    (z_list : PySem.W.nsIn K mainGlobals "list" = some none)
    (z_tuple : PySem.W.nsIn K mainGlobals "tuple" = some none)
    (z_dict : PySem.W.nsIn K mainGlobals "dict" = some none)
    (z_range : PySem.W.nsIn K mainGlobals "range" = some none)
    (z_enumerate : PySem.W.nsIn K mainGlobals "enumerate" = some none)
    (z_zip : PySem.W.nsIn K mainGlobals "zip" = some none) :
    ∃ fd : FuncData, (∀ (s : Shared) (v : Value), BindsTo s fd ⟨[v], []⟩ [("script", v)]) ∧ ∀ base : Heap, K.In base → base.Ns mainGlobals mg → FnOk l.prog w K mg base CX0 24 fa fd ["script"] (spLaw K) := by
  have e := hfa.symm.trans (PySem.W.mg_of X G a22)
  cases e
  have B : Blt mg := ⟨PySem.W.mg_none_of X G z_isinstance, PySem.W.mg_none_of X G z_len, PySem.W.mg_none_of X G z_sum, PySem.W.mg_none_of X G z_max, PySem.W.mg_none_of X G z_min, PySem.W.mg_none_of X G z_abs, PySem.W.mg_none_of X G z_any, PySem.W.mg_none_of X G z_all, PySem.W.mg_none_of X G z_sorted, PySem.W.mg_none_of X G z_int, PySem.W.mg_none_of X G z_bool, PySem.W.mg_none_of X G z_str, PySem.W.mg_none_of X G z_list, PySem.W.mg_none_of X G z_tuple, PySem.W.mg_none_of X G z_dict, PySem.W.mg_none_of X G z_range, PySem.W.mg_none_of X G z_enumerate, PySem.W.mg_none_of X G z_zip⟩
  have F0 := fun_mk (st := s_power) l0 c0 k0
  have b0 := F0.binds (ps := ["base", "exponent", "modulus"]) fun _ _ _ _ _ _ us hl => match us, hl with | [_, _, _], _ => rfl
  have m0 := PySem.W.mg_of X G a0
  have F1 := fun_mk (st := s_is_prime) l1 c1 k1
  have b1 := F1.binds (ps := ["number"]) fun _ _ _ _ _ _ us hl => match us, hl with | [_], _ => rfl
  have m1 := PySem.W.mg_of X G a1
  have F2 := fun_mk (st := s__is_root) l2 c2 k2
  have b2 := F2.binds (ps := ["p", "q", "number"]) fun _ _ _ _ _ _ us hl => match us, hl with | [_, _, _], _ => rfl
  have m2 := PySem.W.mg_of X G a2
  have F3 := fun_mk (st := s__check_primes) l3 c3 k3
  have b3 := F3.binds (ps := ["p", "q"]) fun _ _ _ _ _ _ us hl => match us, hl with | [_, _], _ => rfl
  have m3 := PySem.W.mg_of X G a3
  have F4 := fun_mk (st := s__check_bases) l4 c4 k4
  have b4 := F4.binds (ps := ["p", "q", "bases"]) fun _ _ _ _ _ _ us hl => match us, hl with | [_, _, _], _ => rfl
  have m4 := PySem.W.mg_of X G a4
  have F5 := fun_mk (st := s_BadGroup___init__) l5 c5 k5
  have b5 := F5.binds (ps := ["self", "what"]) fun _ _ _ _ _ _ us hl => match us, hl with | [_, _], _ => rfl
  have F6 := fun_mk (st := s_Group___init__) l6 c6 k6
  have b6 := F6.binds (ps := ["self", "p", "q", "bases"]) fun _ _ _ _ _ _ us hl => match us, hl with | [_, _, _, _], _ => rfl
  have F7 := fun_mk (st := s_Group___eq__) l7 c7 k7
  have b7 := F7.binds (ps := ["self", "other"]) fun _ _ _ _ _ _ us hl => match us, hl with | [_, _], _ => rfl
  have F8 := fun_mk (st := s_Group_is_element) l8 c8 k8
  have b8 := F8.binds (ps := ["self", "number"]) fun _ _ _ _ _ _ us hl => match us, hl with | [_, _], _ => rfl
  have F9 := fun_mk (st := s_Group_raised) l9 c9 k9
  have b9 := F9.binds (ps := ["self", "element", "exponent"]) fun _ _ _ _ _ _ us hl => match us, hl with | [_, _, _], _ => rfl
  have F10 := fun_mk (st := s_Group_product) l10 c10 k10
  have b10 := F10.binds (ps := ["self", "pairs"]) fun _ _ _ _ _ _ us hl => match us, hl with | [_, _], _ => rfl
  have F11 := fun_mk (st := s_Group_log) l11 c11 k11
  have b11 := F11.binds (ps := ["self", "element"]) fun _ _ _ _ _ _ us hl => match us, hl with | [_, _], _ => rfl
  have F12 := fun_mk (st := s__law_pool) l12 c12 k12
  have b12 := F12.binds (ps := ["script", "budget"]) fun _ _ _ _ _ _ us hl => match us, hl with | [_, _], _ => rfl
  have m12 := PySem.W.mg_of X G a12
  have F13 := fun_mk (st := s__law_draw) l13 c13 k13
  have b13 := F13.binds (ps := ["pool", "size"]) fun _ _ _ _ _ _ us hl => match us, hl with | [_, _], _ => rfl
  have m13 := PySem.W.mg_of X G a13
  have F14 := fun_mk (st := s__law_same) l14 c14 k14
  have b14 := F14.binds (ps := ["actual", "due"]) fun _ _ _ _ _ _ us hl => match us, hl with | [_, _], _ => rfl
  have m14 := PySem.W.mg_of X G a14
  have F15 := fun_mk (st := s__law_power) l15 c15 k15
  have b15 := F15.binds (ps := ["base", "exponent", "modulus"]) fun _ _ _ _ _ _ us hl => match us, hl with | [_, _, _], _ => rfl
  have m15 := PySem.W.mg_of X G a15
  have F16 := fun_mk (st := s__law_raised) l16 c16 k16
  have b16 := F16.binds (ps := ["group", "element", "exponent"]) fun _ _ _ _ _ _ us hl => match us, hl with | [_, _, _], _ => rfl
  have m16 := PySem.W.mg_of X G a16
  have F17 := fun_mk (st := s__law_product) l17 c17 k17
  have b17 := F17.binds (ps := ["group", "pairs"]) fun _ _ _ _ _ _ us hl => match us, hl with | [_, _], _ => rfl
  have m17 := PySem.W.mg_of X G a17
  have F18 := fun_mk (st := s__law_group) l18 c18 k18
  have b18 := F18.binds (ps := ["pool", "count", "least"]) fun _ _ _ _ _ _ us hl => match us, hl with | [_, _, _], _ => rfl
  have m18 := PySem.W.mg_of X G a18
  have F19 := fun_mk (st := s__law_prime) l19 c19 k19
  have b19 := F19.binds (ps := ["number"]) fun _ _ _ _ _ _ us hl => match us, hl with | [_], _ => rfl
  have m19 := PySem.W.mg_of X G a19
  have F20 := fun_mk (st := s__law_wrong) l20 c20 k20
  have b20 := F20.binds (ps := ["p", "q", "bases"]) fun _ _ _ _ _ _ us hl => match us, hl with | [_, _, _], _ => rfl
  have m20 := PySem.W.mg_of X G a20
  have F21 := fun_mk (st := s__law_changed) l21 c21 k21
  have b21 := F21.binds (ps := ["pool", "p", "q", "bases"]) fun _ _ _ _ _ _ us hl => match us, hl with | [_, _, _, _], _ => rfl
  have m21 := PySem.W.mg_of X G a21
  have F22 := fun_mk (st := s_law) l22 c22 k22
  have b22 := F22.binds (ps := ["script"]) fun _ _ _ _ _ _ us hl => match us, hl with | [_], _ => rfl
  have m22 := PySem.W.mg_of X G a22
  refine ⟨PySem.W.fnOf "law" "law" (defArgs s_law) (defBody s_law) (defScope s_law) .none kV22 dc22 pm22 an22 cd22 ct22, fun s v => .of_eq rfl, fun base _ _ => ?_⟩
  have cls_C0 : Cls K C0 := ⟨pg_C0, hd_C0, po_C0, sa_C0⟩
  have T0 : GT K C0 := ⟨cls_C0, nP, nQ, nB⟩
  have gl : Glb mg := ⟨⟨_, PySem.W.mg_of X G gS⟩, ⟨_, PySem.W.mg_of X G gL⟩, ⟨_, PySem.W.mg_of X G gF⟩, ⟨_, PySem.W.mg_of X G gM⟩⟩
  have I0 : IsiC K C0 := ⟨cls_C0, ha0, hn1, ht1, hm0⟩
  have er : Errs1 K mg (caE C0 CG) CV CO CQ CR CT CU := ⟨PySem.W.mg_of X G a_CV, PySem.W.mg_of X G a_CG, PySem.W.mg_of X G a_CO, PySem.W.mg_of X G a_CQ, PySem.W.mg_of X G a_CR, PySem.W.mg_of X G a_CT, PySem.W.mg_of X G a_CU, PySem.W.mg_none_of X G z_VE⟩
  have oex : OexC K CG := ⟨⟨xnm, xq, xN, xbs, xbm, xsn, xsub, xab, xcol, xdd, xk0, xk1, xk2, xk3, xk5, xlk, xrf⟩, xsa, xbe, xty, xkc⟩
  have XE : L2.ExcC K (caE C0 CG 10) := ⟨xga, xgg, xbe, xhd, xha, hn1, ht1, xhm⟩
  have XF : XfC K (caE C0 CG 10) ∧ PySem.W.findIn K (.ref (caE C0 CG 10)) "what" = some none := ⟨⟨xga, xgg, xbe, xhd⟩, xwh⟩
  have XK : ∀ k ∈ [10], (∃ f, xcN k = some f) ∧ PySem.W.exmOne K (.ref (caE C0 CG k)) (.ref CV) = some true := fun k hk => by obtain rfl := List.mem_singleton.mp hk; exact ⟨⟨_, rfl⟩, exm_of bV iV tV sV⟩
  have C_power : C8.Cal l.prog w K mg base 1 "power" spPower [] := ⟨⟨_, _, _, [], ok_power F0 , m0, k0, b0, .nil⟩⟩
  have D_power : C8.Cal l.prog w K mg base 1 "power" (toSp K (caE C0 CG) aspPower) [] := cal_weak sp_power C_power
  have C_is_prime : C8.Cal l.prog w K mg base 1 "is_prime" spIsPrime [] := ⟨⟨_, _, _, [], ok_is_prime F1 , m1, k1, b1, .nil⟩⟩
  have D_prime : C8.Cal l.prog w K mg base 1 "is_prime" (toSp K (caE C0 CG) aspPrime) [] := cal_weak sp_prime C_is_prime
  have C__is_root : C8.Cal l.prog w K mg base 2 "_is_root" spRoot [] := ⟨⟨_, _, _, [], ok_is_root F2 C_power, m2, k2, b2, .nil⟩⟩
  have D_root : C8.Cal l.prog w K mg base 2 "_is_root" (toSp K (caE C0 CG) aspRoot) [] := cal_weak sp_root C__is_root
  have XM : XMk l.prog w K mg base "BadGroup" (caE C0 CG 10) "what" := ⟨⟨_, _, _, oex, a5, fn_ty i5, ok_x_BadGroup F5 oex xwh, b5, PySem.W.mg_of X G a_CG⟩⟩
  have X_primes : CalX l.prog w K mg base 3 "_check_primes" (toSp2 K (caE C0 CG) bspCheckPrimes) := ⟨⟨_, _, _, ok_check_primesX F3 gl XM D_prime, m3, k3, b3⟩⟩
  have X_bases : CalX l.prog w K mg base 4 "_check_bases" (toSp2 K (caE C0 CG) bspCheckBases) := ⟨⟨_, _, _, fn_un2 fun kd => ok_check_basesX kd F4 B gl XM D_root, m4, k4, b4⟩⟩
  have FG := fn_unI2 fun kd => ok_group_initX (P := l.prog) (w := w) (base := base) (ca := caE C0 CG) kd F6 T0 B X_primes X_bases
  have MX : MakX l.prog w K mg base 5 "Group" C0 (toSpI2 K (caE C0 CG) 0 bspGroupI) := ⟨⟨_, _, _, ⟨mk_C0, a6, i6, kc_C0⟩, FG, PySem.W.mg_of X G a_C0, b6⟩⟩
  have KG : C8.Mak l.prog w K mg base 5 "Group" C0 (toSpI K (caE C0 CG) 0 aspGroupIK) [] := ⟨⟨_, _, _, [], ⟨mk_C0, a6, i6, kc_C0⟩, fn_x0 FG sp_groupI, PySem.W.mg_of X G a_C0, b6, .nil⟩⟩
  have E0 : EqM l.prog w K mg base 1 C0 (toSp K (caE C0 CG) aspGrEq) := ⟨⟨f7, _, _, ok_group_eq F7 T0 I0 (PySem.W.mg_of X G a_C0) B, a7, i7, b7⟩⟩
  have M_is_element : C8.Met l.prog w K mg base 3 C0 "is_element" (toSp K (caE C0 CG) aspIsEl) [] := ⟨⟨f8, _, _, [], cls_C0, ⟨a8, i8, k8⟩, ok_is_element F8 T0 D_root, b8, .nil⟩⟩
  have M_raised : C8.Met l.prog w K mg base 2 C0 "raised" (toSp K (caE C0 CG) aspRaised) [] := ⟨⟨f9, _, _, [], cls_C0, ⟨a9, i9, k9⟩, ok_raised F9 T0 D_power, b9, .nil⟩⟩
  have M_product : C8.Met l.prog w K mg base 3 C0 "product" (toSp K (caE C0 CG) aspProduct) [] := ⟨⟨f10, _, _, [], cls_C0, ⟨a10, i10, k10⟩, ok_product F10 T0 M_raised, b10, .nil⟩⟩
  have M_log : C8.Met l.prog w K mg base 1 C0 "log" (toSp K (caE C0 CG) aspLog) [] := ⟨⟨f11, _, _, [], cls_C0, ⟨a11, i11, k11⟩, ok_log F11 T0 B, b11, .nil⟩⟩
  have C__law_pool : C8.Cal l.prog w K mg base 1 "_law_pool" (spPool K) [] := ⟨⟨_, _, _, [], ok_law_pool F12 B, m12, k12, b12, .nil⟩⟩
  have C__law_draw : C8.Cal l.prog w K mg base 1 "_law_draw" spDrawP [] := ⟨⟨_, _, _, [], ok_law_drawP F13 B, m13, k13, b13, .nil⟩⟩
  have D_draw : C8.Cal l.prog w K mg base 1 "_law_draw" (toSp K (caE C0 CG) aspDraw) [] := cal_weak sp_draw C__law_draw
  have C__law_same : C8.Cal l.prog w K mg base 14 "_law_same" (toSp K (caE C0 CG) (aspSame 14)) [] := ⟨⟨_, _, _, [], ok_law_same F14 B m14 b14 14, m14, k14, b14, .nil⟩⟩
  have WS : CalW l.prog w K mg base 1 "_law_same" (toSp K (caE C0 CG) aspSameW) := ⟨⟨_, _, _, ok_law_sameW F14 B, m14, k14, b14⟩⟩
  have C__law_power : C8.Cal l.prog w K mg base 1 "_law_power" spLPower [] := ⟨⟨_, _, _, [], ok_law_power F15 B, m15, k15, b15, .nil⟩⟩
  have D_lpower : C8.Cal l.prog w K mg base 1 "_law_power" (toSp K (caE C0 CG) aspLPower) [] := cal_weak sp_lpower C__law_power
  have C__law_raised : C8.Cal l.prog w K mg base 2 "_law_raised" (toSp K (caE C0 CG) aspLRaised) [] := ⟨⟨_, _, _, [], ok_law_raised F16 B D_lpower, m16, k16, b16, .nil⟩⟩
  have C__law_product : C8.Cal l.prog w K mg base 3 "_law_product" (toSp K (caE C0 CG) aspLProduct) [] := ⟨⟨_, _, _, [], ok_law_product F17 B C__law_raised, m17, k17, b17, .nil⟩⟩
  have C__law_group : C8.Cal l.prog w K mg base 2 "_law_group" (toSp K (caE C0 CG) aspLGroup) [] := ⟨⟨_, _, _, [], ok_law_group F18 B D_draw D_lpower, m18, k18, b18, .nil⟩⟩
  have C__law_prime : C8.Cal l.prog w K mg base 1 "_law_prime" (toSp K (caE C0 CG) aspLPrime) [] := ⟨⟨_, _, _, [], ok_law_prime F19 B, m19, k19, b19, .nil⟩⟩
  have C__law_wrong : C8.Cal l.prog w K mg base 2 "_law_wrong" (toSp K (caE C0 CG) aspWrong) [] := ⟨⟨_, _, _, [], ok_law_wrong F20 B C__law_prime D_lpower, m20, k20, b20, .nil⟩⟩
  have C__law_changed : C8.Cal l.prog w K mg base 2 "_law_changed" (toSp K (caE C0 CG) aspChanged) [] := ⟨⟨_, _, _, [], ok_law_changed F21 B D_draw, m21, k21, b21, .nil⟩⟩
  exact ok_law F22 B T0 er E0 XE XF kit_self (kit_ty (by rfl) xve) (kit_cons (kit_no iO tO sO sG) (kit_cons (kit_no iQ tQ sQ sG) (kit_cons (kit_no iR tR sR sG) (kit_cons (kit_no iT tT sT sG) (kit_cons (kit_no iU tU sU sG) rfl))))) XK C__law_pool D_draw C__law_group C__law_changed C__law_wrong C__law_same WS C__law_raised C__law_product M_is_element M_raised M_product M_log KG MX
theorem walk {l : PySem.W.OpenLaw} {q : Program} {loose : List Str} {XP : (Str → Option Value) → Heap → Prop} {YP : World → Heap → Prop} {d : DefRec} {K : Params → PySem.W.Frag} (hn : l.most = some 63) (hdf : d.params.defaults = [])
    (hY : ∀ (w : World) (h : Heap), YP w h → (K w.params).In h)
    (F : ∀ (w : World) (mg : Str → Option Value) (fa : Addr) (h : Heap), (K w.params).In h → h.Ns mainGlobals mg → mg d.name = some (.ref fa) →
      ∃ fd : FuncData, (∀ (s : Shared) (u : Value), BindsTo s fd ⟨[u], []⟩ [("script", u)]) ∧ ∀ base : Heap, (K w.params).In base → base.Ns mainGlobals mg → FnOk l.prog w (K w.params) mg base CX0 24 fa fd ["script"] (spLaw (K w.params))) :
    PySem.W.WalkO q loose XP YP l.row.toRowW d [] (fun f vs => PySem.call f vs) :=
  L2.walk_of (n := 63) (k := 24) (x := "script") (CX := fun _ => CX0) (sp := fun w => spLaw (K w.params)) hn (by decide) hdf ⟨rfl, by decide, by decide⟩ hY F (fun _ _ a ns hl _ hS => ⟨a, ns, rfl, hS, fun _ => rfl⟩) fun _ _ _ _ _ z => z
end My
open PySem PySem.W PyProof.Rows
set_option maxRecDepth 100000 in
set_option maxHeartbeats 0 in
theorem PySem.Challenge.cw_vouchdoor_k01_groups_holds : PySem.Challenge.rw_vouchdoor_k01_groups.Holds := by
  w_on; o_law; k_head; (case hw => w_witness2)
  k_fill
  refine My.walk (l := PySem.Challenge.rw_vouchdoor_k01_groups) rfl rfl (fun w h Y => PySem.W.kIn_of Y) ?F
  case F =>
    intro w mg fa h KX G hmg
    refine' My.all_mk KX G hmg ?a_C0 ?pg_C0 ?hd_C0 ?po_C0 ?sa_C0 ?mk_C0 ?kc_C0 ?nP ?nQ ?nB ?gS ?gL ?gF ?gM ?ha0 ?hn1 ?ht1 ?hm0 ?a_CV ?a_CO ?a_CG ?a_CQ ?a_CR ?a_CT ?a_CU ?z_VE ?xlk ?xrf ?xsa ?xty ?xkc ?xwh ?xbe ?xve ?xga ?xgg ?xhd ?xha ?xhm ?bV ?iV ?tV ?sV ?sG ?iO ?tO ?sO ?iQ ?tQ ?sQ ?iR ?tR ?sR ?iT ?tT ?sT ?iU ?tU ?sU ?a0 ?l0 ?c0 ?k0 ?a1 ?l1 ?c1 ?k1 ?a2 ?l2 ?c2 ?k2 ?a3 ?l3 ?c3 ?k3 ?a4 ?l4 ?c4 ?k4 ?a5 ?i5 ?l5 ?c5 ?k5 ?a6 ?i6 ?l6 ?c6 ?k6 ?a7 ?i7 ?l7 ?c7 ?k7 ?a8 ?i8 ?l8 ?c8 ?k8 ?a9 ?i9 ?l9 ?c9 ?k9 ?a10 ?i10 ?l10 ?c10 ?k10 ?a11 ?i11 ?l11 ?c11 ?k11 ?a12 ?l12 ?c12 ?k12 ?a13 ?l13 ?c13 ?k13 ?a14 ?l14 ?c14 ?k14 ?a15 ?l15 ?c15 ?k15 ?a16 ?l16 ?c16 ?k16 ?a17 ?l17 ?c17 ?k17 ?a18 ?l18 ?c18 ?k18 ?a19 ?l19 ?c19 ?k19 ?a20 ?l20 ?c20 ?k20 ?a21 ?l21 ?c21 ?k21 ?a22 ?l22 ?c22 ?k22 ?z_isinstance ?z_len ?z_sum ?z_max ?z_min ?z_abs ?z_any ?z_all ?z_sorted ?z_int ?z_bool ?z_str ?z_list ?z_tuple ?z_dict ?z_range ?z_enumerate ?z_zip
    (case a_C0 => k_is)
    (case pg_C0 => k_is)
    (case hd_C0 => k_is)
    (case po_C0 => k_is)
    (case sa_C0 => k_is)
    (case mk_C0 => k_is)
    (case kc_C0 => k_is)
    (case nP => k_is)
    (case nQ => k_is)
    (case nB => k_is)
    (case gS => k_is)
    (case gL => k_is)
    (case gF => k_is)
    (case gM => k_is)
    (case ha0 => k_is)
    (case hn1 => k_is)
    (case ht1 => k_is)
    (case hm0 => k_is)
    (case a_CV => k_is)
    (case a_CO => k_is)
    (case a_CG => k_is)
    (case a_CQ => k_is)
    (case a_CR => k_is)
    (case a_CT => k_is)
    (case a_CU => k_is)
    (case z_VE => k_is)
    (case xlk => k_is)
    (case xrf => rfl)
    (case xsa => k_is)
    (case xty => k_is)
    (case xkc => k_is)
    (case xwh => k_is)
    (case xbe => k_is)
    (case xve => k_is)
    (case xga => k_is)
    (case xgg => k_is)
    (case xhd => k_is)
    (case xha => k_is)
    (case xhm => k_is)
    (case bV => k_is)
    (case iV => k_is)
    (case tV => k_is)
    (case sV => k_is)
    (case sG => first | rfl | k_is)
    (case iO => k_is)
    (case tO => k_is)
    (case sO => k_is)
    (case iQ => k_is)
    (case tQ => k_is)
    (case sQ => k_is)
    (case iR => k_is)
    (case tR => k_is)
    (case sR => k_is)
    (case iT => k_is)
    (case tT => k_is)
    (case sT => k_is)
    (case iU => k_is)
    (case tU => k_is)
    (case sU => k_is)
    (case a0 => k_is)
    (case l0 => k_is)
    (case c0 => k_is)
    (case k0 => k_is)
    (case a1 => k_is)
    (case l1 => k_is)
    (case c1 => k_is)
    (case k1 => k_is)
    (case a2 => k_is)
    (case l2 => k_is)
    (case c2 => k_is)
    (case k2 => k_is)
    (case a3 => k_is)
    (case l3 => k_is)
    (case c3 => k_is)
    (case k3 => k_is)
    (case a4 => k_is)
    (case l4 => k_is)
    (case c4 => k_is)
    (case k4 => k_is)
    (case a5 => k_is)
    (case i5 => k_is)
    (case l5 => k_is)
    (case c5 => k_is)
    (case k5 => k_is)
    (case a6 => k_is)
    (case i6 => k_is)
    (case l6 => k_is)
    (case c6 => k_is)
    (case k6 => k_is)
    (case a7 => k_is)
    (case i7 => k_is)
    (case l7 => k_is)
    (case c7 => k_is)
    (case k7 => k_is)
    (case a8 => k_is)
    (case i8 => k_is)
    (case l8 => k_is)
    (case c8 => k_is)
    (case k8 => k_is)
    (case a9 => k_is)
    (case i9 => k_is)
    (case l9 => k_is)
    (case c9 => k_is)
    (case k9 => k_is)
    (case a10 => k_is)
    (case i10 => k_is)
    (case l10 => k_is)
    (case c10 => k_is)
    (case k10 => k_is)
    (case a11 => k_is)
    (case i11 => k_is)
    (case l11 => k_is)
    (case c11 => k_is)
    (case k11 => k_is)
    (case a12 => k_is)
    (case l12 => k_is)
    (case c12 => k_is)
    (case k12 => k_is)
    (case a13 => k_is)
    (case l13 => k_is)
    (case c13 => k_is)
    (case k13 => k_is)
    (case a14 => k_is)
    (case l14 => k_is)
    (case c14 => k_is)
    (case k14 => k_is)
    (case a15 => k_is)
    (case l15 => k_is)
    (case c15 => k_is)
    (case k15 => k_is)
    (case a16 => k_is)
    (case l16 => k_is)
    (case c16 => k_is)
    (case k16 => k_is)
    (case a17 => k_is)
    (case l17 => k_is)
    (case c17 => k_is)
    (case k17 => k_is)
    (case a18 => k_is)
    (case l18 => k_is)
    (case c18 => k_is)
    (case k18 => k_is)
    (case a19 => k_is)
    (case l19 => k_is)
    (case c19 => k_is)
    (case k19 => k_is)
    (case a20 => k_is)
    (case l20 => k_is)
    (case c20 => k_is)
    (case k20 => k_is)
    (case a21 => k_is)
    (case l21 => k_is)
    (case c21 => k_is)
    (case k21 => k_is)
    (case a22 => k_is)
    (case l22 => k_is)
    (case c22 => k_is)
    (case k22 => k_is)
    (case z_isinstance => k_is)
    (case z_len => k_is)
    (case z_sum => k_is)
    (case z_max => k_is)
    (case z_min => k_is)
    (case z_abs => k_is)
    (case z_any => k_is)
    (case z_all => k_is)
    (case z_sorted => k_is)
    (case z_int => k_is)
    (case z_bool => k_is)
    (case z_str => k_is)
    (case z_list => k_is)
    (case z_tuple => k_is)
    (case z_dict => k_is)
    (case z_range => k_is)
    (case z_enumerate => k_is)
    (case z_zip => k_is)

