import PyProof.Rows.All
import Wide.All
import OpenK.AllK
import Wide.FinOn
import HandS.ForMost
import HandS.IsInst
import HandS.Codes
import HandS.Zip
import KE.GoesEnum
import KE.KDictZip
import KE.KItemsList
import HandS.Exc
import HandS.ExcOwn
import HandS.TryOnly
import HandS.WordsExc
import HandS.ExcIs
import PySem.Challenge.RW_vouchdoor_k02_commitments_and_relations
set_option Elab.async false
set_option linter.all false
set_option maxRecDepth 100000


namespace My
open PySem PySem.Spec PyProof.Rows L2
/-! ### zip over lists and tuples in any mix; list(zip(..)) -/
section
variable {prog : Program} {w : World} {A : Around} {E : Value → Shared → Prop} {s : Shared}
/-- an iterator over a list (false) or a tuple (true) -/
def ItK (k : Bool) (h : Heap) (it l : Addr) (i : Nat) : Prop := match k with
  | true => h.IsTupleIter it l i
  | false => h.IsListIter it l i
def SeK (k : Bool) (h : Heap) (l : Addr) (its : Array Value) : Prop := match k with
  | true => h.IsTuple l its
  | false => h.IsList l its
abbrev StK (k : Bool) (it l : Addr) (its : Array Value) : Nat → Heap → Prop := fun i h => ItK k h it l i ∧ SeK k h l its
theorem drK (k : Bool) (hh : A.handled = none) {it l : Addr} (ne : l ≠ it) (its : Array Value) : Draws prog w A it [it, l] its.size (fun i v => its[i]? = some v) (StK k it l its) := by
  cases k with
  | true => exact Draws.tuple hh it l ne its
  | false => exact Draws.list hh it l ne its
def itO (k : Bool) (l : Addr) : Obj := match k with
  | true => { cls := .type "tuple_iterator", data := .fields #[.ref l, .int 0 0] }
  | false => { cls := .type "list_iterator", data := .fields #[.ref l, .int 0 0] }
theorem bgK (k : Bool) (l : Addr) (its : Array Value) : Begins (.ref l) (itO k l) fun h => SeK k h l its := by
  cases k with
  | true => exact begins_tuple l its
  | false => exact begins_list l its
theorem itK0 {k : Bool} {h : Heap} {it l : Addr} (e : h.get? it = some (itO k l)) : ItK k h it l 0 := by
  cases k with
  | true => exact ⟨_, e, rfl, rfl⟩
  | false => exact ⟨_, e, rfl, rfl⟩
theorem SeK.at {k : Bool} {h h' : Heap} {l : Addr} {its : Array Value} (x : SeK k h l its) (q : ∀ o, h.get? l = some o → h'.get? l = some o) : SeK k h' l its := by
  cases k with
  | true => exact Heap.IsTuple.at (show h.IsTuple l its from x) q
  | false => exact Heap.IsList.at (show h.IsList l its from x) q
theorem ItK.at {k : Bool} {h h' : Heap} {it l : Addr} {i : Nat} (x : ItK k h it l i) (q : ∀ o, h.get? it = some o → h'.get? it = some o) : ItK k h' it l i := by
  cases k with
  | true => exact Heap.IsTupleIter.at (show h.IsTupleIter it l i from x) q
  | false => exact Heap.IsListIter.at (show h.IsListIter it l i from x) q
theorem ItK.obj {k : Bool} {h : Heap} {it l : Addr} {i : Nat} (x : ItK k h it l i) : ∃ o, h.get? it = some o ∧ ∀ v, o.data ≠ .cell v := by
  cases k with
  | true =>
    obtain ⟨o, e, _, d⟩ := x
    exact ⟨o, e, fun v q => by rw [d] at q; cases q⟩
  | false =>
    obtain ⟨o, e, _, d⟩ := x
    exact ⟨o, e, fun v q => by rw [d] at q; cases q⟩
theorem SeK.lt {k : Bool} {h : Heap} {l : Addr} {its : Array Value} (x : SeK k h l its) : l < h.objs.size := by
  cases k with
  | true =>
    obtain ⟨o, e, _⟩ := x
    exact Heap.lt_size e
  | false =>
    obtain ⟨o, e, _⟩ := x
    exact Heap.lt_size e
theorem sepK {z TI TO i1 i2 a b : Addr} (D : ZipApart z TI TO i1 i2 a b) : ZipSep2 z TI TO i1 i2 [i1, a] [i2, b] where
  TIz := D.TIz
  TOz := D.TOz
  TITO := D.TITO
  TIi1 := D.TIi1
  mem1 := by simp
  zf1 := by simp [D.i1z.symm, D.l1z.symm]
  Tf1 := by simp [D.TOi1, D.l1TO.symm]
  TIi2 := D.TIi2
  mem2 := by simp
  zf2 := by simp [D.i2z.symm, D.l2z.symm]
  Tf2 := by simp [D.TOi2, D.l2TO.symm]
  sep1_2 := by simp [D.i12, D.l2i1.symm]
  sep2_1 := by simp [D.i12.symm, D.l1i2.symm]
end
def SqK (k : Bool) (K : PySem.W.Frag) (H : Hp) (a : Addr) (xs : List V) : Prop := match k with
  | true => SqT K H a xs
  | false => SqL K H a xs
section
variable {X : Cx} {pins : List (Addr × Obj)} {σ : L2.St} {H : Hp} {s : Shared}
theorem seqK {k : Bool} {a : Addr} {xs : List V} (I : Inv X pins σ H s) (h : SqK k X.K H a xs) : ∃ its : List Value, Vals xs its ∧ SeK k s.heap a its.toArray ∧ xs.length ≤ sizeLine := by
  cases k with
  | true =>
    obtain ⟨its, r, p, z⟩ := I.tuple h
    exact ⟨its, r, p, z⟩
  | false =>
    obtain ⟨its, r, p, z⟩ := I.list h
    exact ⟨its, r, p.isList, z⟩
theorem seqK_inj {k : Bool} {a : Addr} {xs ys : List V} (I : Inv X pins σ H s) (h : SqK k X.K H a xs) (h' : SqK k X.K H a ys) : xs = ys := by
  cases k with
  | true => exact I.tuple_inj h h'
  | false => exact I.list_inj h h'
end
/-- the turns of a zip of a and b -/
def ItzK (k1 k2 : Bool) (K : PySem.W.Frag) (a b : Addr) : It where
  go := fun i H => ∃ (xs ys : List V) (x y : V), SqK k1 K H a xs ∧ SqK k2 K H b ys ∧ xs[i]? = some x ∧ ys[i]? = some y
  yld := fun i H v H' => ∃ T x y, v = .ref T ∧ H T = none ∧ H' = upd H T (.tup [x, y]) ∧ (∀ xs, SqK k1 K H a xs → xs[i]? = some x) ∧ ∀ ys, SqK k2 K H b ys → ys[i]? = some y
  stop := fun i H => ∃ xs ys : List V, SqK k1 K H a xs ∧ SqK k2 K H b ys ∧ i ≤ xs.length ∧ i ≤ ys.length ∧ (i = xs.length ∨ i = ys.length)
theorem turnK {P : Program} {w : World} {K : PySem.W.Frag} {elts : List Expr} {kk : Nat} {tpos : Pos} {k1 k2 : Bool} {a b z TI TO i1 i2 : Addr} (D : ZipApart z TI TO i1 i2 a b) :
    Turn P w K (.Tuple elts kk tpos) (ItzK k1 k2 K a b) [z, TI, TO, i1, i2] z
      (fun i h => IsZip h z TI TO .none ∧ IsPair h TI (.ref i1) (.ref i2) ∧ (∃ x y, IsPair h TO x y) ∧ ItK k1 h i1 a i ∧ ItK k2 h i2 b i) where
  mem := by simp
  obj := fun i h st c hc => by
    obtain ⟨hz, hTI, ⟨x, y, hTO⟩, g1, g2⟩ := st
    simp only [List.mem_cons, List.not_mem_nil, or_false] at hc
    rcases hc with rfl | rfl | rfl | rfl | rfl
    · exact ⟨_, hz, fun v q => nomatch q⟩
    · exact ⟨_, hTI, fun v q => nomatch q⟩
    · exact ⟨_, hTO, fun v q => nomatch q⟩
    · exact g1.obj
    · exact g2.obj
  keep := fun i h h' st q => by
    obtain ⟨hz, hTI, ⟨x, y, hTO⟩, g1, g2⟩ := st
    exact ⟨q z (by simp) _ hz, q TI (by simp) _ hTI, ⟨x, y, q TO (by simp) _ hTO⟩, g1.at fun o => q i1 (by simp) o, g2.at fun o => q i2 (by simp) o⟩
  item := by
    intro X hP hw hK hc i pins s σ H E I hf st hg
    subst hP hw hK
    obtain ⟨hz, hTI, ⟨x0, y0, hTO⟩, g1, g2⟩ := st
    obtain ⟨xs, ys, x, y, qx, qy, hx, hy⟩ := hg
    obtain ⟨us, ru, pu, _⟩ := seqK I qx
    obtain ⟨vs, rv, pv, _⟩ := seqK I qy
    obtain ⟨u, hu, ru1⟩ := ru.get hx
    obtain ⟨v, hv, rv1⟩ := rv.get hy
    have zl : z < s.heap.objs.size := Heap.lt_size hz
    have lu : i < us.toArray.size := by simpa using (List.getElem?_eq_some_iff.mp hu).1
    have lv : i < vs.toArray.size := by simpa using (List.getElem?_eq_some_iff.mp hv).1
    have hh : X.A.in1.handled = none := I.ok.hd hc
    have d1 := drK (prog := X.prog) (w := X.w) (A := X.A.in1) k1 hh D.l1i1 us.toArray
    have d2 := drK (prog := X.prog) (w := X.w) (A := X.A.in1) k2 hh D.l2i2 vs.toArray
    refine wpAny_pyNext_zipD2_item (sepK D) d1 d2 hz hTI hTO ⟨g1, pu⟩ ⟨g2, pv⟩ lu lv fun u' v' h' tk eu ev z1 t1 s1 s2 hT hsz hk => ?_
    have eu' : u' = u := by
      have : us.toArray[i]? = some u := by simpa using hu
      rw [this] at eu
      exact (Option.some.inj eu).symm
    have ev' : v' = v := by
      have : vs.toArray[i]? = some v := by simpa using hv
      rw [this] at ev
      exact (Option.some.inj ev).symm
    subst eu' ev'
    refine ⟨_, rfl, wpAny_letOwnedTupleGo_zip (s := { s with heap := h', toks := tk }) z1 fun h2 z2 sb => ?_⟩
    have hT2 : IsPair h2 s.heap.objs.size u' v' := (sb.2 _ (Nat.ne_of_gt zl)).trans hT
    have new : ObjOk X.prog X.w (upd H s.heap.objs.size (.tup [x, y])) h2 s.heap.objs.size (.tup [x, y]) := ⟨Nat.le_of_ble_eq_true rfl, [u', v'], .cons ru1 (.cons rv1 .nil), ⟨_, hT2, rfl, _, rfl⟩⟩
    have ks : ∀ c o, c ∉ [z, TI, TO, i1, i2] → s.heap.get? c = some o → h2.get? c = some o := fun c o hb q => by
      simp only [List.mem_cons, List.not_mem_nil, or_false, not_or] at hb
      exact (sb.2 c hb.1).trans (hk c o hb.1 hb.2.2.1 hb.2.2.2.1 hb.2.2.2.2 q)
    have J := I.turnedNew (t' := tk) (ch := [z, TI, TO, i1, i2]) ks hf (Nat.le_refl _) new
    refine ⟨V.ref s.heap.objs.size, _, J, rfl, ⟨_, x, y, rfl, I.hok.fresh (Nat.le_refl _), rfl, fun l hl => by rw [seqK_inj I hl qx]; exact hx, fun l hl => by rw [seqK_inj I hl qy]; exact hy⟩, ⟨z2, ?_, ⟨u', v', (sb.2 _ D.TOz).trans t1⟩, s1.1.at fun o q => (sb.2 _ D.i1z).trans q, s2.1.at fun o q => (sb.2 _ D.i2z).trans q⟩, fun c hcm => ?_⟩
    · exact (sb.2 _ D.TIz).trans (hk _ _ D.TIz D.TITO D.TIi1 D.TIi2 hTI)
    · have hlt : c < s.heap.objs.size := by
        simp only [List.mem_cons, List.not_mem_nil, or_false] at hcm
        rcases hcm with rfl | rfl | rfl | rfl | rfl
        · exact zl
        · exact Heap.lt_size hTI
        · exact Heap.lt_size hTO
        · obtain ⟨_, e, _⟩ := g1.obj
          exact Heap.lt_size e
        · obtain ⟨_, e, _⟩ := g2.obj
          exact Heap.lt_size e
      rw [upd_ne (Nat.ne_of_lt hlt)]
      exact (hf c hcm).1
  done := by
    intro X hP hw hK hc i pins s σ H E I hf st hg
    subst hP hw hK
    obtain ⟨hz, hTI, ⟨x0, y0, hTO⟩, g1, g2⟩ := st
    obtain ⟨xs, ys, qx, qy, lx, ly, hend⟩ := hg
    obtain ⟨us, ru, pu, _⟩ := seqK I qx
    obtain ⟨vs, rv, pv, _⟩ := seqK I qy
    have e1 := ru.length
    have e2 := rv.length
    have hh : X.A.in1.handled = none := I.ok.hd hc
    have d1 := drK (prog := X.prog) (w := X.w) (A := X.A.in1) k1 hh D.l1i1 us.toArray
    have d2 := drK (prog := X.prog) (w := X.w) (A := X.A.in1) k2 hh D.l2i2 vs.toArray
    refine wpAny_pyNext_zipD2_end (sepK D) d1 d2 hz hTI hTO ⟨g1, pu⟩ ⟨g2, pv⟩ (by simp; omega) (by simp; omega) (by simp; omega) fun h' tk hk => ⟨rfl, I.turnedL (t' := tk) (ch := [z, TI, TO, i1, i2]) (fun c o hb q => ?_) hf⟩
    simp only [List.mem_cons, List.not_mem_nil, or_false, not_or] at hb
    exact hk c o hb.1 hb.2.2.1 hb.2.2.2.1 hb.2.2.2.2 q
  self := fun A i s Q E st h => wpAny_pyIter_zip st.1 h
/-- zip(e, e2): the kinds told -/
def iZipK (k1 k2 : Bool) (K : PySem.W.Frag) (ta : TA) : TI := fun σ H R => ta σ H fun vs H1 => ∃ a b xs ys, vs = [.ref a, .ref b] ∧ SqK k1 K H1 a xs ∧ SqK k2 K H1 b ys ∧ R (ItzK k1 k2 K a b) H1
theorem fresh5 {X : Cx} {pins : List (Addr × Obj)} {σ : L2.St} {H : Hp} {s : Shared} (I : Inv X pins σ H s) (c : Addr) (hc : c ∈ [s.heap.objs.size + 4, s.heap.objs.size + 2, s.heap.objs.size + 3, s.heap.objs.size, s.heap.objs.size + 1]) : FpOk X pins H c := by
  have le : s.heap.objs.size ≤ c := by
    simp only [List.mem_cons, List.not_mem_nil, or_false] at hc
    rcases hc with rfl | rfl | rfl | rfl | rfl
    · exact Nat.le_add_right _ _
    · exact Nat.le_add_right _ _
    · exact Nat.le_add_right _ _
    · exact Nat.le_refl _
    · exact Nat.le_add_right _ _
  exact I.fpOk le (I.hok.fresh le)
theorem pi_zipK (k1 k2 : Bool) {X : Cx} {K : PySem.W.Frag} (hK : X.K = K) {e e2 : Expr} {ta : TA} {p pos tpos : Pos} {elts : List Expr} {kk : Nat} (hg : Gl X "zip") (hm : X.mg "zip" = none) (ha : PA X [e, e2] ta)
    (hs : starEach [e, e2] X.env = (false, eval e X.env) :: starEach [e2] X.env := by rfl) (hpl : (backTo pos (starEach [e2] X.env)).any (·.1) = false := by rfl) :
    PI X (.Tuple elts kk tpos) (.Call (.Name "zip" p) [e, e2] [] pos) (iZipK k1 k2 K ta) := by
  subst hK
  refine ⟨fun pins s σ H R I h => Call_ (ld_blt I hg hm PyProof.Rows.boot_zip (PyProof.Rows.callWith_type1 (thn (ha.run pos pins s σ H _ I h) fun us s1 hh => ?_) hs hpl))⟩
  obtain ⟨vs, H1, I1, r1, a, b, xs, ys, rfl, qx, qy, q⟩ := hh
  obtain ⟨u1, u2, rfl, ru, rv⟩ := vals2 r1
  cases (show u1 = Value.ref a from ru)
  cases (show u2 = Value.ref b from rv)
  obtain ⟨us, _, pu, _⟩ := seqK I1 qx
  obtain ⟨ws, _, pw, _⟩ := seqK I1 qy
  refine zip_begins2 (bgK k1 a us.toArray) (bgK k2 b ws.toArray) pu pw fun h' hz hTI hTO o1 o2 hsz hk => wpAny_pyIter_zip hz ?_
  have J : Inv X pins σ H1 { s1 with heap := h' } := I1.kept (t' := s1.toks) hk
  exact ⟨_, [s1.heap.objs.size + 4, s1.heap.objs.size + 2, s1.heap.objs.size + 3, s1.heap.objs.size, s1.heap.objs.size + 1], _, _, H1, rfl, J, turnK (PySem.W.ktu_apart s1.heap.objs.size a b pu.lt pw.lt), ⟨hz, hTI, ⟨_, _, hTO⟩, itK0 o1, itK0 o2⟩, fresh5 I1, q⟩
/-- what a loop over it asks -/
theorem for_zipK {k1 k2 : Bool} {K : PySem.W.Frag} {a b : Addr} {xs ys : List V} {g : TG} {tb : TS} {D : Ends} {σ : L2.St} {H : Hp} (hl : xs.length = ys.length) (Pv : Nat → L2.St → Hp → Prop) (h0 : Pv 0 σ H) (hq : ∀ i σ H, Pv i σ H → SqK k1 K H a xs ∧ SqK k2 K H b ys)
    (hs : ∀ (i : Nat) (x y : V) (T : Addr) (σ : L2.St) (H : Hp), xs[i]? = some x → ys[i]? = some y → Pv i σ H → H T = none → g (.ref T) σ (upd H T (.tup [x, y])) fun σ2 H2 => tb { D with nx := Pv (i + 1), ct := Pv (i + 1), bk := D.nx } σ2 H2) (hd : ∀ σ H, Pv xs.length σ H → D.nx σ H) :
    ∃ W : Nat → Nat → L2.St → Hp → Prop, (∃ m, W 0 m σ H) ∧ ∀ i m σ H, W i m σ H →
      ((ItzK k1 k2 K a b).stop i H ∧ D.nx σ H) ∨ ((ItzK k1 k2 K a b).go i H ∧ ∃ N : L2.St → Hp → Prop, (∀ σ' H', N σ' H' → ∃ m', m' < m ∧ W (i + 1) m' σ' H') ∧ ∀ v H', (ItzK k1 k2 K a b).yld i H v H' → g v σ H' fun σ2 H2 => tb { D with nx := N, ct := N, bk := D.nx } σ2 H2) := by
  refine ⟨fun i m σ H => m + i = xs.length ∧ Pv i σ H, ⟨xs.length, rfl, h0⟩, ?_⟩
  rintro i m σ H ⟨hm, p⟩
  obtain ⟨qx, qy⟩ := hq i σ H p
  by_cases hlt : i < xs.length
  · have hx : xs[i]? = some xs[i] := List.getElem?_eq_getElem hlt
    have hy : ys[i]? = some (ys[i]'(by omega)) := List.getElem?_eq_getElem (by omega)
    refine .inr ⟨⟨xs, ys, _, _, qx, qy, hx, hy⟩, Pv (i + 1), fun σ' H' p' => ⟨m - 1, by omega, by omega, p'⟩, fun v H' yl => ?_⟩
    obtain ⟨T, x', y', rfl, hT, rfl, f1, f2⟩ := yl
    exact hs i x' y' T σ H (f1 xs qx) (f2 ys qy) p hT
  · have e : i = xs.length := by omega
    subst e
    exact .inl ⟨⟨xs, ys, qx, qy, Nat.le_refl _, by omega, .inl rfl⟩, hd σ H p⟩

/-! ### list(zip(..)) -/
section
variable {prog : Program} {w : World} {A : Around} {E : Value → Shared → Prop} {s : Shared} {z TI TO T i1 i2 : Addr} {fp1 fp2 : List Addr} {n1 n2 i : Nat} {P1 P2 : Nat → Value → Prop} {St1 St2 : Nat → Heap → Prop} {f : Bool} {oT : Obj}
theorem zh_item {Q : Value → Shared → Prop} (S : ZipSep2 z TI TO i1 i2 fp1 fp2) (D1 : Draws prog w A i1 fp1 n1 P1 St1) (D2 : Draws prog w A i2 fp2 n2 P2 St2)
    (hz : IsZipHeld s.heap z TI TO T f) (hT : s.heap.get? T = some oT) (hTI : IsPair s.heap TI (.ref i1) (.ref i2)) (st1 : St1 i s.heap) (st2 : St2 i s.heap) (lt1 : i < n1) (lt2 : i < n2)
    (hQ : ∀ x y h' tk, P1 i x → P2 i y → IsZipHeld h' z TI TO T true → St1 (i + 1) h' → St2 (i + 1) h' → IsPair h' s.heap.objs.size x y → h'.objs.size = s.heap.objs.size + 1 →
      (∀ c o, c ≠ z → c ≠ i1 → c ≠ i2 → s.heap.get? c = some o → h'.get? c = some o) → Q (.ref s.heap.objs.size) { s with heap := h', toks := tk }) :
    wpAny (model prog w) A (Builtin.«zip.__next__» ⟨[.ref z], []⟩) (fun fin s' => ∃ v, fin = .done (.ret v) ∧ Q v s') E s := by
  obtain ⟨h0, g, d, tk0, os⟩ := s
  show wpAny _ _ (field (.ref z) 2 >>= fun _ => _) _ _ _; refine wpAny_bind (wpAny_field (x := .bool false) hz rfl rfl ?_)
  show wpAny _ _ (field (.ref z) 3 >>= fun _ => _) _ _ _; refine wpAny_bind (wpAny_field (x := .ref TI) hz rfl rfl ?_)
  refine wpAny_bind (wpAny_seqItems hTI rfl ?_); show wpAny _ _ (Builtin.SmallTypes.ownedTupleIsFree (.ref z) >>= fun _ => _) _ _ _
  refine wpAny_bind (wpAny_tupleHeld_zip hz hT fun ha za sa => ?_)
  simp only [Bool.false_eq_true, if_false]; refine wpAny_bind ?_
  rw [← Array.forIn_toList]; simp only [List.forIn_cons, List.forIn_nil]
  refine wpAny_bind (wpAny_bind (wpAny_holding ?_)); show wpAny _ _ (Builtin.SmallTypes.nextOf (.ref i1) >>= fun _ => _) _ _ _
  refine wpAny_bind (D1.item i ⟨ha, g, d, tk0, os⟩ _ _ lt1 (D1.over st1 sa S.zf1) fun x hb tkb px st1b sb => wpAny_pure ?_); refine wpAny_pure ?_
  refine wpAny_bind (wpAny_bind (wpAny_holding ?_)); show wpAny _ _ (Builtin.SmallTypes.nextOf (.ref i2) >>= fun _ => _) _ _ _
  refine wpAny_bind (D2.item i ⟨hb, g, d, tkb, os⟩ _ _ lt2 (D2.over (D2.over st2 sa S.zf2) sb S.sep1_2) fun y hc tkc py st2c sc => wpAny_pure ?_); refine wpAny_pure (wpAny_pure ?_)
  show wpAny _ _ (newTuple [x, y] >>= fun _ => _) _ _ _; refine wpAny_bind (wpAny_newTuple ?_)
  have hsz : hc.objs.size = h0.objs.size := by rw [sc.1, sb.1, sa.1]
  have zc : IsZipHeld hc z TI TO T true := sc.extBut _ _ S.zi2 (sb.extBut _ _ S.zi1 za)
  have up : ∀ c o, hc.get? c = some o → (hc.push { cls := .type "tuple", data := .seq #[x, y] }).get? c = some o := fun c o e => Heap.get?_push_of_some _ e
  refine wpAny_pure ⟨_, rfl, ?_⟩
  show Q (.ref hc.objs.size) _
  have hp : IsPair (hc.push { cls := .type "tuple", data := .seq #[x, y] }) hc.objs.size x y := Heap.get?_push_size _ rfl
  have h4 : (hc.push { cls := .type "tuple", data := .seq #[x, y] }).objs.size = hc.objs.size + 1 := Heap.size_push ..
  rw [hsz] at hp h4 ⊢
  exact hQ x y _ tkc px py (up _ _ zc) (D1.frame _ _ _ (D1.over st1b sc S.sep2_1) fun c _ o e => up c o e) (D2.frame _ _ _ st2c fun c _ o e => up c o e) hp h4 fun c o c1 c2 c3 e => up c o (sc.extBut _ _ c3 (sb.extBut _ _ c2 (sa.extBut _ _ c1 e)))
theorem zh_end {Q : Fin → Shared → Prop} (S : ZipSep2 z TI TO i1 i2 fp1 fp2) (D1 : Draws prog w A i1 fp1 n1 P1 St1) (D2 : Draws prog w A i2 fp2 n2 P2 St2)
    (hz : IsZipHeld s.heap z TI TO T f) (hT : s.heap.get? T = some oT) (hTI : IsPair s.heap TI (.ref i1) (.ref i2)) (st1 : St1 i s.heap) (st2 : St2 i s.heap) (le1 : i ≤ n1) (le2 : i ≤ n2) (he : i = n1 ∨ i = n2)
    (hE : ∀ h' tk e, (∀ c o, c ≠ z → c ≠ TO → c ≠ i1 → c ≠ i2 → s.heap.get? c = some o → h'.get? c = some o) → (∃ o, h'.get? e = some o ∧ o.cls = .type "StopIteration") → E (.ref e) { s with heap := h', toks := tk }) :
    wpAny (model prog w) A (Builtin.«zip.__next__» ⟨[.ref z], []⟩) Q E s := by
  obtain ⟨h0, g, d, tk0, os⟩ := s
  show wpAny _ _ (field (.ref z) 2 >>= fun _ => _) _ _ _; refine wpAny_bind (wpAny_field (x := .bool false) hz rfl rfl ?_)
  show wpAny _ _ (field (.ref z) 3 >>= fun _ => _) _ _ _; refine wpAny_bind (wpAny_field (x := .ref TI) hz rfl rfl ?_)
  refine wpAny_bind (wpAny_seqItems hTI rfl ?_); show wpAny _ _ (Builtin.SmallTypes.ownedTupleIsFree (.ref z) >>= fun _ => _) _ _ _
  refine wpAny_bind (wpAny_tupleHeld_zip hz hT fun ha za sa => ?_)
  simp only [Bool.false_eq_true, if_false]; refine wpAny_bind ?_
  rw [← Array.forIn_toList]; simp only [List.forIn_cons, List.forIn_nil]
  refine wpAny_bind (wpAny_bind (wpAny_holding ?_)); show wpAny _ _ (Builtin.SmallTypes.nextOf (.ref i1) >>= fun _ => _) _ _ _
  by_cases e1 : i = n1
  · subst e1
    refine wpAny_bind (D1.done ⟨ha, g, d, tk0, os⟩ _ _ (D1.over st1 sa S.zf1) fun hb e sb ex => ?_)
    exact hE hb tk0 e (fun c o c1 _ c2 _ x => sb _ _ c2 (sa.extBut _ _ c1 x)) ex
  · have e2 : i = n2 := he.resolve_left e1
    subst e2
    refine wpAny_bind (D1.item i ⟨ha, g, d, tk0, os⟩ _ _ (by omega) (D1.over st1 sa S.zf1) fun x hb tkb px st1b sb => wpAny_pure ?_); refine wpAny_pure ?_
    refine wpAny_bind (wpAny_bind (wpAny_holding ?_)); show wpAny _ _ (Builtin.SmallTypes.nextOf (.ref i2) >>= fun _ => _) _ _ _
    refine wpAny_bind (D2.done ⟨hb, g, d, tkb, os⟩ _ _ (D2.over (D2.over st2 sa S.zf2) sb S.sep1_2) fun hc e sc ex => ?_)
    exact hE hc tkb e (fun c o c1 _ c2 c3 x => sc _ _ c3 (sb.extBut _ _ c2 (sa.extBut _ _ c1 x))) ex
/-- a zip between two items, whatever it holds; S: the list that is made -/
def ZSt (z TI TO i1 i2 S : Addr) (St1 St2 : Nat → Heap → Prop) (h : Heap) (i : Nat) : Prop :=
  IsPair h TI (.ref i1) (.ref i2) ∧ St1 i h ∧ St2 i h ∧ ((IsZip h z TI TO .none ∧ ∃ x y, IsPair h TO x y) ∨ ∃ T f oT, IsZipHeld h z TI TO T f ∧ h.get? T = some oT ∧ T ≠ S)
theorem zs_item {S0 : Addr} {Q : Option Value → Shared → Prop} (S : ZipSep2 z TI TO i1 i2 fp1 fp2) (D1 : Draws prog w A.in1 i1 fp1 n1 P1 St1) (D2 : Draws prog w A.in1 i2 fp2 n2 P2 St2) (st : ZSt z TI TO i1 i2 S0 St1 St2 s.heap i) (lt1 : i < n1) (lt2 : i < n2) (hS : S0 < s.heap.objs.size)
    (hQ : ∀ x y h' tk, P1 i x → P2 i y → ZSt z TI TO i1 i2 S0 St1 St2 h' (i + 1) → IsPair h' s.heap.objs.size x y → h'.objs.size = s.heap.objs.size + 1 → (∀ c o, c ≠ z → c ≠ TO → c ≠ i1 → c ≠ i2 → s.heap.get? c = some o → h'.get? c = some o) → Q (some (.ref s.heap.objs.size)) { s with heap := h', toks := tk }) :
    wpAny (model prog w) A (pyNext (.ref z)) Q E s := by
  obtain ⟨hTI, s1, s2, hh⟩ := st
  rcases hh with ⟨hz, x0, y0, hTO⟩ | ⟨T, f, oT, hz, hT, nT⟩
  · refine wpAny_pyNext_zipD2_item S D1 D2 hz hTI hTO s1 s2 lt1 lt2 fun x y h' tk px py z1 t1 s1' s2' hp hsz hk => ?_
    exact hQ x y h' tk px py ⟨hk _ _ S.TIz S.TITO S.TIi1 S.TIi2 hTI, s1', s2', .inr ⟨_, false, _, z1, hp, Nat.ne_of_gt hS⟩⟩ hp hsz hk
  · have ty : s.TypeIs (.ref z) "zip" := ⟨_, hz, rfl⟩
    unfold pyNext
    refine wpAny_bind (wpAny_attempt (wpAny_callSpecial?_slot (name := Str.ofString "__next__") ty F.slot_zip_next (wpAny_call_entry F.slot_zip_next ty F.entry_zip_next (zh_item S D1 D2 hz hT hTI s1 s2 lt1 lt2 fun x y h' tk px py z1 s1' s2' hp hsz hk => wpAny_pure ?_) (F.args_zip_next_1 _))))
    have hk4 : ∀ c o, c ≠ z → c ≠ TO → c ≠ i1 → c ≠ i2 → s.heap.get? c = some o → h'.get? c = some o := fun c o c1 _ c2 c3 e => hk c o c1 c2 c3 e
    have hTI' := hk _ _ S.TIz S.TIi1 S.TIi2 hTI
    have : ∃ o, h'.get? T = some o := by
      by_cases q : T = z ∨ T = i1 ∨ T = i2
      · rcases q with q | q | q
        · rw [q]
          exact ⟨_, z1⟩
        · rw [q]
          exact D1.live _ _ s1'
        · rw [q]
          exact D2.live _ _ s2'
      · simp only [not_or] at q
        exact ⟨oT, hk _ _ q.1 q.2.1 q.2.2 hT⟩
    obtain ⟨o, ho⟩ := this
    exact hQ x y h' tk px py ⟨hTI', s1', s2', .inr ⟨T, true, o, z1, ho, nT⟩⟩ hp hsz hk4
theorem zs_end {S0 : Addr} {Q : Option Value → Shared → Prop} (S : ZipSep2 z TI TO i1 i2 fp1 fp2) (D1 : Draws prog w A.in1 i1 fp1 n1 P1 St1) (D2 : Draws prog w A.in1 i2 fp2 n2 P2 St2) (st : ZSt z TI TO i1 i2 S0 St1 St2 s.heap i) (le1 : i ≤ n1) (le2 : i ≤ n2) (he : i = n1 ∨ i = n2)
    (hQ : ∀ h' tk, (∀ c o, c ≠ z → c ≠ TO → c ≠ i1 → c ≠ i2 → s.heap.get? c = some o → h'.get? c = some o) → Q none { s with heap := h', toks := tk }) : wpAny (model prog w) A (pyNext (.ref z)) Q E s := by
  obtain ⟨hTI, s1, s2, hh⟩ := st
  rcases hh with ⟨hz, x0, y0, hTO⟩ | ⟨T, f, oT, hz, hT, nT⟩
  · exact wpAny_pyNext_zipD2_end S D1 D2 hz hTI hTO s1 s2 le1 le2 he hQ
  · have ty : s.TypeIs (.ref z) "zip" := ⟨_, hz, rfl⟩
    unfold pyNext
    refine wpAny_bind (wpAny_attempt (wpAny_callSpecial?_slot (name := Str.ofString "__next__") ty F.slot_zip_next (wpAny_call_entry F.slot_zip_next ty F.entry_zip_next (zh_end S D1 D2 hz hT hTI s1 s2 le1 le2 he fun h' tk e hk ex => ?_) (F.args_zip_next_1 _))))
    obtain ⟨o, ho, hc⟩ := ex
    refine wpAny_bind (wpAny_isInstance (T := "StopIteration") (b := true) ⟨o, ho, hc⟩ isSubtype_stop ?_)
    exact wpAny_pure (hQ _ _ hk)
theorem ZSt.over {S0 : Addr} {h h' : Heap} (D1 : Draws prog w A i1 fp1 n1 P1 St1) (D2 : Draws prog w A i2 fp2 n2 P2 St2) (st : ZSt z TI TO i1 i2 S0 St1 St2 h i) (nS : S0 ≠ z ∧ S0 ≠ TI ∧ S0 ≠ TO ∧ S0 ∉ fp1 ∧ S0 ∉ fp2) (k : ∀ b o, b ≠ S0 → h.get? b = some o → h'.get? b = some o) : ZSt z TI TO i1 i2 S0 St1 St2 h' i := by
  obtain ⟨hTI, s1, s2, hh⟩ := st
  obtain ⟨n1, n2, n3, n4, n5⟩ := nS
  refine ⟨k _ _ n2.symm hTI, D1.frame _ _ _ s1 fun b hb o e => k b o (fun q => n4 (q ▸ hb)) e, D2.frame _ _ _ s2 fun b hb o e => k b o (fun q => n5 (q ▸ hb)) e, ?_⟩
  rcases hh with ⟨hz, x0, y0, hTO⟩ | ⟨T, f, oT, hz, hT, nT⟩
  · exact .inl ⟨k _ _ n1.symm hz, x0, y0, k _ _ n3.symm hTO⟩
  · exact .inr ⟨T, f, oT, k _ _ n1.symm hz, k _ _ nT hT, nT⟩
/-- the tuples made so far: above lo, in ascending order, of the items' pairs -/
structure ZlG (us vs : Array Value) (lo : Addr) (h : Heap) (as : List Addr) : Prop where
  rise : as.Pairwise (· < ·)
  above : ∀ a ∈ as, lo < a
  pairs : ∀ (j : Nat) (a : Addr), as[j]? = some a → ∃ x y, us[j]? = some x ∧ vs[j]? = some y ∧ IsPair h a x y
theorem zip_nolen : typeLookup (.type "zip") "__len__" = pure none := by rw [typeLookup_type, builtinLookup_eq_fast]; kernel_rfl
theorem zip_nohint : typeLookup (.type "zip") "__length_hint__" = pure none := by rw [typeLookup_type, builtinLookup_eq_fast]; kernel_rfl
theorem zl_loop {R : Result → Shared → Prop} {S0 : Addr} {us vs : Array Value} {h1 : Heap} {res : Value} {Sa Sb : Nat → Heap → Prop} (S : ZipSep2 z TI TO i1 i2 fp1 fp2) (D1 : Draws prog w A.in1.in1 i1 fp1 us.size (fun i v => us[i]? = some v) Sa) (D2 : Draws prog w A.in1.in1 i2 fp2 vs.size (fun i v => vs[i]? = some v) Sb)
    (lo : Addr) (nS : S0 ≠ z ∧ S0 ≠ TI ∧ S0 ≠ TO ∧ S0 ∉ fp1 ∧ S0 ∉ fp2) (hlo : S0 ≤ lo ∧ z ≤ lo ∧ TO ≤ lo ∧ i1 ≤ lo ∧ i2 ≤ lo) (hn : min us.size vs.size ≤ sizeLine)
    (hR : ∀ h' tk acc c as, (∀ b o, b ≠ S0 → b ≠ z → b ≠ TO → b ≠ i1 → b ≠ i2 → h1.get? b = some o → h'.get? b = some o) → h'.get? S0 = some { cls := .type "list", dict := none, data := .seq acc c, slots := #[] } → as.length = min us.size vs.size → ZlG us vs lo h' as →
      acc.toList = as.map Value.ref → R (.ok (.ret res)) { s with heap := h', toks := tk }) :
    ∀ (k i : Nat) (h : Heap) (tk c : Nat) (acc : Array Value) (as : List Addr), k + i = min us.size vs.size → ZSt z TI TO i1 i2 S0 Sa Sb h i → (∀ b o, b ≠ S0 → b ≠ z → b ≠ TO → b ≠ i1 → b ≠ i2 → h1.get? b = some o → h.get? b = some o) →
      h.get? S0 = some { cls := .type "list", dict := none, data := .seq acc c, slots := #[] } → acc.toList = as.map Value.ref → as.length = i → ZlG us vs lo h as → lo < h.objs.size →
      codeAny (model prog w) A (.builtin "list.extend.loop" ⟨[.ref S0, .ref z, res], []⟩) R { s with heap := h, toks := tk } := by
  have off : ∀ a, lo < a → a ≠ S0 ∧ a ≠ z ∧ a ≠ TO ∧ a ≠ i1 ∧ a ≠ i2 := fun a ha => ⟨Nat.ne_of_gt (Nat.lt_of_le_of_lt hlo.1 ha), Nat.ne_of_gt (Nat.lt_of_le_of_lt hlo.2.1 ha), Nat.ne_of_gt (Nat.lt_of_le_of_lt hlo.2.2.1 ha), Nat.ne_of_gt (Nat.lt_of_le_of_lt hlo.2.2.2.1 ha), Nat.ne_of_gt (Nat.lt_of_le_of_lt hlo.2.2.2.2 ha)⟩
  have nI1 : S0 ≠ i1 := fun e => nS.2.2.2.1 (e ▸ S.mem1)
  have nI2 : S0 ≠ i2 := fun e => nS.2.2.2.2 (e ▸ S.mem2)
  intro k
  induction k with
  | zero =>
    intro i h tk c acc as hk st hkeep hS hacc hal hG hlt
    refine codeAny_builtin PySem.F.entry_extend_loop ?_
    rw [Around.under_plainId PySem.F.plain_extend_loop _]; show wpAny _ A.in1 (pyNext (.ref z) >>= fun _ => _) _ _ _
    refine wpAny_bind (zs_end (s := { s with heap := h, toks := tk }) (A := A.in1) S D1 D2 st (by omega) (by omega) (by omega) fun h' tk' he => ?_)
    refine wpAny_pure (hR h' tk' acc c as (fun b o b1 b2 b3 b4 b5 e => he b o b2 b3 b4 b5 (hkeep b o b1 b2 b3 b4 b5 e)) (he S0 _ nS.1 nS.2.2.1 nI1 nI2 hS) (by omega) ⟨hG.rise, hG.above, fun j a hj => ?_⟩ hacc)
    obtain ⟨x, y, e1, e2, e3⟩ := hG.pairs j a hj
    obtain ⟨_, o2, o3, o4, o5⟩ := off a (hG.above a (List.mem_of_getElem? hj))
    exact ⟨x, y, e1, e2, he a _ o2 o3 o4 o5 e3⟩
  | succ k ih =>
    intro i h tk c acc as hk st hkeep hS hacc hal hG hlt
    have hsz : acc.size = i := by rw [← Array.length_toList, hacc, List.length_map, hal]
    have hSl : S0 < h.objs.size := Heap.lt_size hS
    refine codeAny_builtin PySem.F.entry_extend_loop ?_
    rw [Around.under_plainId PySem.F.plain_extend_loop _]; show wpAny _ A.in1 (pyNext (.ref z) >>= fun _ => _) _ _ _
    refine wpAny_bind (zs_item (s := { s with heap := h, toks := tk }) (A := A.in1) S D1 D2 st (by omega) (by omega) hSl fun x y h' tk' px py st' hp hz' hkp => ?_)
    dsimp only at px py hp hz' hkp ⊢
    have hS' := hkp S0 _ nS.1 nS.2.2.1 nI1 nI2 hS
    have up : ∀ b o, b ≠ S0 → h'.get? b = some o → (h'.update S0 (Obj.mapSeq (·.push (Value.ref h.objs.size)))).get? b = some o := fun b o hb e => (Heap.get?_update_other _ _ (Ne.symm hb)).trans e
    have newNe : h.objs.size ≠ S0 := Nat.ne_of_gt hSl
    show wpAny _ A.in1 (updateSeq S0 (·.push (Value.ref h.objs.size)) >>= fun _ => _) _ _ _; refine wpAny_bind ?_
    refine wpAny_updateSeq hS' rfl (wpAny_pure ⟨plainId_quiet PySem.F.plain_extend_loop _, ih (i + 1) _ tk' _ (acc.push (Value.ref h.objs.size)) (as ++ [h.objs.size]) (by omega) (ZSt.over D1 D2 st' nS up)
      (fun b o b1 b2 b3 b4 b5 e => up b o b1 (hkp b o b2 b3 b4 b5 (hkeep b o b1 b2 b3 b4 b5 e))) (Heap.get?_update_self _ hS' rfl) (by rw [Array.toList_push, hacc, List.map_append]; rfl) (by rw [List.length_append, hal]; rfl) ⟨?_, ?_, ?_⟩ ?_⟩) (by rw [hsz]; omega) (by show (acc.push (Value.ref h.objs.size)).size ≤ sizeLine + 1; rw [Array.size_push, hsz]; omega)
    · refine List.pairwise_append.mpr ⟨hG.rise, List.pairwise_singleton _ _, fun a ha b hb => ?_⟩
      rw [List.mem_singleton.mp hb]
      obtain ⟨j, hj⟩ := List.mem_iff_getElem?.mp ha
      obtain ⟨_, _, _, _, e⟩ := hG.pairs j a hj
      exact Heap.lt_size e
    · intro a ha
      rcases List.mem_append.mp ha with ha | ha
      · exact hG.above a ha
      · rw [List.mem_singleton.mp ha]
        exact hlt
    · intro j b hj
      by_cases h1 : j < as.length
      · rw [List.getElem?_append_left h1] at hj
        obtain ⟨x', y', e1, e2, e3⟩ := hG.pairs j b hj
        obtain ⟨o1, o2, o3, o4, o5⟩ := off b (hG.above b (List.mem_of_getElem? hj))
        exact ⟨x', y', e1, e2, up b _ o1 (hkp b _ o2 o3 o4 o5 e3)⟩
      · by_cases h2 : j = as.length
        · subst h2
          have hb : h.objs.size = b := by simpa using hj
          subst hb
          rw [hal]
          exact ⟨x, y, px, py, up _ _ newNe hp⟩
        · rw [List.getElem?_eq_none (by rw [List.length_append, List.length_singleton]; omega)] at hj
          cases hj
    · have e : (h'.update S0 (Obj.mapSeq (·.push (Value.ref h.objs.size)))).get? h.objs.size = _ := up _ _ newNe hp
      exact Nat.lt_trans hlt (Heap.lt_size e)
theorem zl_extend {R : Result → Shared → Prop} {S0 : Addr} {us vs : Array Value} {res : Value} {c0 : Nat} {Sa Sb : Nat → Heap → Prop} (S : ZipSep2 z TI TO i1 i2 fp1 fp2) (D1 : Draws prog w A.in1.in1 i1 fp1 us.size (fun i v => us[i]? = some v) Sa) (D2 : Draws prog w A.in1.in1 i2 fp2 vs.size (fun i v => vs[i]? = some v) Sb)
    (nS : S0 ≠ z ∧ S0 ≠ TI ∧ S0 ≠ TO ∧ S0 ∉ fp1 ∧ S0 ∉ fp2) (hlo : z ≤ S0 ∧ TO ≤ S0 ∧ i1 ≤ S0 ∧ i2 ≤ S0) (hn : min us.size vs.size ≤ sizeLine) (ty : s.TypeIs (.ref z) "zip") (hz : IsZip s.heap z TI TO .none)
    (st : ZSt z TI TO i1 i2 S0 Sa Sb s.heap 0) (hS : s.heap.get? S0 = some { cls := .type "list", data := .seq #[] c0 }) (hlt : S0 < s.heap.objs.size)
    (hR : ∀ h' tk acc c as, (∀ b o, b ≠ S0 → b ≠ z → b ≠ TO → b ≠ i1 → b ≠ i2 → s.heap.get? b = some o → h'.get? b = some o) → h'.get? S0 = some { cls := .type "list", dict := none, data := .seq acc c, slots := #[] } → as.length = min us.size vs.size → ZlG us vs S0 h' as →
      acc.toList = as.map Value.ref → R (.ok (.ret res)) { s with heap := h', toks := tk }) :
    wpAny (model prog w) A.in1 (Builtin.List.listExtendWith (.ref S0) (.ref z) res)
      (fun fin s' => match fin with | .done f => R (.ok f) s' | .again c' => c'.quiet = true ∧ codeAny (model prog w) A c' R s') (fun e s' => R (.error e) s') s := by
  have e1 : Builtin.List.listSameRef (.ref S0) (.ref z) = false := by simp [Builtin.List.listSameRef, nS.1]
  have e2 : (Value.type "zip" == Value.type "list") = false := by decide
  have e3 : (Value.type "zip" == Value.type "tuple") = false := by decide
  unfold Builtin.List.listExtendWith; refine wpAny_bind (wpAny_typeOf ty ?_)
  simp only [e1, e2, e3, Bool.or_false, Bool.false_eq_true, if_false]; refine wpAny_bind (wpAny_pyIter_zip hz ?_)
  refine wpAny_bind (wpAny_holding ?_); unfold Builtin.List.listLengthHint
  refine wpAny_bind (wpAny_specialOf ty zip_nolen ?_); show wpAny _ A.in1 (specialOf (Value.ref z) (Str.ofString "__length_hint__") >>= fun _ => _) _ _ _
  refine wpAny_bind (wpAny_specialOf ty zip_nohint ?_); refine wpAny_pure ?_
  show wpAny _ A.in1 (rule "list.extend.makes-room" >>= fun _ => Builtin.List.listTouch (.ref S0) >>= fun _ => again (.builtin "list.extend.loop" ⟨[.ref S0, .ref z, res], []⟩)) _ _ _
  refine wpAny_bind (wpAny_rule ?_); refine wpAny_bind ?_
  show wpAny _ A.in1 (updateSeq S0 (·.push .none) >>= fun _ => updateSeq S0 (·.pop)) _ _ _; refine wpAny_bind (wpAny_updateSeq hS rfl ?_)
  have g2 := Heap.get?_update_self (Obj.mapSeq (·.push Value.none)) hS rfl
  refine wpAny_updateSeq (hz := by seq_fits) g2 rfl ?_
  have g3 := Heap.get?_update_self (Obj.mapSeq (·.pop)) g2 rfl
  have oth : ∀ b o, b ≠ S0 → s.heap.get? b = some o → ((s.heap.update S0 (Obj.mapSeq (·.push Value.none))).update S0 (Obj.mapSeq (·.pop))).get? b = some o := fun b o hb e => (Heap.get?_update_other _ _ (Ne.symm hb)).trans ((Heap.get?_update_other _ _ (Ne.symm hb)).trans e)
  refine wpAny_pure ⟨plainId_quiet PySem.F.plain_extend_loop _, zl_loop (h1 := s.heap) S D1 D2 S0 nS ⟨Nat.le_refl _, hlo⟩ hn hR (min us.size vs.size) 0 _ _ _ #[] [] rfl (ZSt.over D1 D2 st nS oth) (fun b o hb _ _ _ _ e => oth b o hb e) g3 rfl rfl ⟨List.Pairwise.nil, (fun _ ha => nomatch ha), fun j a hj => by simp at hj⟩ ?_⟩
  exact Heap.lt_size g3
/-- list(z): z a zip that was just made -/
theorem zl_call {Q : Value → Shared → Prop} {us vs : Array Value} {Sa Sb : Nat → Heap → Prop} (S : ZipSep2 z TI TO i1 i2 fp1 fp2) (D1 : Draws prog w A.in1.in1.in1 i1 fp1 us.size (fun i v => us[i]? = some v) Sa) (D2 : Draws prog w A.in1.in1.in1 i2 fp2 vs.size (fun i v => vs[i]? = some v) Sb)
    (hn : min us.size vs.size ≤ sizeLine) (hz : IsZip s.heap z TI TO .none) (hTI : IsPair s.heap TI (.ref i1) (.ref i2)) (hTO : ∃ x y, IsPair s.heap TO x y) (s1 : Sa 0 s.heap) (s2 : Sb 0 s.heap) (f1 : ∀ b ∈ fp1, b < s.heap.objs.size) (f2 : ∀ b ∈ fp2, b < s.heap.objs.size)
    (hQ : ∀ h' tk acc c as, (∀ b o, b ≠ z → b ≠ TO → b ≠ i1 → b ≠ i2 → s.heap.get? b = some o → h'.get? b = some o) → h'.get? s.heap.objs.size = some { cls := .type "list", dict := none, data := .seq acc c, slots := #[] } → as.length = min us.size vs.size → ZlG us vs s.heap.objs.size h' as →
      acc.toList = as.map Value.ref → Q (.ref s.heap.objs.size) { s with heap := h', toks := tk }) :
    wpAny (model prog w) A (call (.type "list") [.ref z]) Q E s := by
  obtain ⟨x0, y0, hTO⟩ := hTO
  obtain ⟨h0, g, d, tk0, os⟩ := s
  have lz : z < h0.objs.size := Heap.lt_size hz
  have lTI : TI < h0.objs.size := Heap.lt_size hTI
  have lTO : TO < h0.objs.size := Heap.lt_size hTO
  have li1 := f1 i1 S.mem1
  have li2 := f2 i2 S.mem2
  have nS : h0.objs.size ≠ z ∧ h0.objs.size ≠ TI ∧ h0.objs.size ≠ TO ∧ h0.objs.size ∉ fp1 ∧ h0.objs.size ∉ fp2 := ⟨Nat.ne_of_gt lz, Nat.ne_of_gt lTI, Nat.ne_of_gt lTO, fun q => Nat.lt_irrefl _ (f1 _ q), fun q => Nat.lt_irrefl _ (f2 _ q)⟩
  refine callType_codes (Q₁ := fun obj t => obj = .ref h0.objs.size ∧ t = ⟨h0.push { cls := .type "list", data := .seq #[] }, g, d, tk0, os⟩) F.called_list (F.typeCall_list_1 _) F.entry_list_init (code_list_new _ ⟨rfl, rfl⟩) fun obj t ht => ?_
  obtain ⟨rfl, rfl⟩ := ht
  have gS : (h0.push { cls := .type "list", data := .seq #[] }).get? h0.objs.size = some { cls := .type "list", data := .seq #[] } := Heap.get?_push_size _ rfl
  have up : ∀ b o, h0.get? b = some o → (h0.push { cls := .type "list", data := .seq #[] }).get? b = some o := fun b o e => Heap.get?_push_of_some _ e
  refine ⟨⟨_, gS, rfl⟩, F.args_list_init_2 _ _, ?_⟩
  show wpAny _ _ (do let old ← Builtin.List.listItems (.ref h0.objs.size); Builtin.List.listUpdate (.ref h0.objs.size) (fun _ => #[]); letGo old.toList.reverse; Builtin.List.listExtendWith (.ref h0.objs.size) (.ref z) .none) _ _ _
  refine wpAny_bind ?_; unfold Builtin.List.listItems
  refine wpAny_bind (wpAny_seqItems gS rfl (wpAny_pure ?_))
  show wpAny _ _ (updateSeq h0.objs.size (fun _ => #[]) >>= fun _ => letGo (#[] : Array Value).toList.reverse >>= fun _ => Builtin.List.listExtendWith (.ref h0.objs.size) (.ref z) .none) _ _ _
  refine wpAny_bind (wpAny_updateSeq gS rfl ?_)
  have g2 := Heap.get?_update_self (Obj.mapSeq (fun _ => (#[] : Array Value))) gS rfl
  have oth : ∀ b o, b ≠ h0.objs.size → h0.get? b = some o → ((h0.push { cls := .type "list", data := .seq #[] }).update h0.objs.size (Obj.mapSeq (fun _ => (#[] : Array Value)))).get? b = some o := fun b o hb e => (Heap.get?_update_other _ _ (Ne.symm hb)).trans (up b o e)
  have low : ∀ b o, h0.get? b = some o → b ≠ h0.objs.size := fun b o e => Nat.ne_of_lt (Heap.lt_size e)
  have zs : ZSt z TI TO i1 i2 h0.objs.size Sa Sb h0 0 := ⟨hTI, s1, s2, .inl ⟨hz, x0, y0, hTO⟩⟩
  have z2 := oth _ _ (Nat.ne_of_lt lz) hz
  refine wpAny_bind (wpAny_letGo ?_)
  refine zl_extend (A := A.in1) S D1 D2 nS ⟨Nat.le_of_lt lz, Nat.le_of_lt lTO, Nat.le_of_lt li1, Nat.le_of_lt li2⟩ hn ⟨_, z2, rfl⟩ z2 (ZSt.over D1 D2 zs nS oth) g2 (Heap.lt_size g2) fun h' tk acc c as hk hS' hl hG hacc => ?_
  exact ⟨rfl, hQ h' tk acc c as (fun b o b2 b3 b4 b5 e => hk b o (low b o e) b2 b3 b4 b5 (oth b o (low b o e) e)) hS' hl hG hacc⟩
end
/-! the rule -/
def tListZip (k1 k2 : Bool) (K : PySem.W.Frag) (ta : TA) : TE := fun σ H Q => ta σ H fun vs H1 => ∃ a b xs ys, vs = [.ref a, .ref b] ∧ SqK k1 K H1 a xs ∧ SqK k2 K H1 b ys ∧
  ∀ H' l (ts : List Addr), Same H1 H' → H1 l = none → H' l = some (.lst (ts.map V.ref)) → Paired (fun (t : Addr) (p : V × V) => H' t = some (.tup [p.1, p.2])) ts (xs.zip ys) → Q (.ref l) H'
def putZ : Hp → List Addr → List (V × V) → Hp
  | H, a :: as, p :: ps => putZ (upd H a (.tup [p.1, p.2])) as ps
  | H, _, _ => H
theorem putZ_off {b : Addr} : ∀ (as : List Addr) (ps : List (V × V)) (H : Hp), b ∉ as → putZ H as ps b = H b
  | [], _, _, _ => rfl
  | _ :: _, [], _, _ => rfl
  | a :: as, p :: ps, H, h => by
    have h' := not_or.mp (fun q => h (List.mem_cons.mpr q))
    show putZ (upd H a _) as ps b = H b
    rw [putZ_off as ps _ h'.2, upd_ne h'.1]
theorem putZ_at : ∀ (as : List Addr) (ps : List (V × V)) (H : Hp), as.length = ps.length → as.Nodup → Paired (fun (t : Addr) (p : V × V) => putZ H as ps t = some (.tup [p.1, p.2])) as ps
  | [], [], _, _, _ => .nil
  | [], _ :: _, _, h, _ => by cases h
  | _ :: _, [], _, h, _ => by cases h
  | a :: as, p :: ps, H, h, hn => by
    obtain ⟨n1, n2⟩ := List.nodup_cons.mp hn
    refine .cons ?_ (putZ_at as ps (upd H a (.tup [p.1, p.2])) (Nat.succ.inj h) n2)
    show putZ (upd H a (.tup [p.1, p.2])) as ps a = _
    rw [putZ_off as ps _ n1, upd_same]
theorem paired_at {α β : Type} {F : α → β → Prop} : ∀ {xs : List α} {ys : List β}, Paired F xs ys → ∀ {i : Nat} {x : α}, xs[i]? = some x → ∃ y, ys[i]? = some y ∧ F x y
  | _, _, .nil, i, x, h => by cases h
  | _, _, .cons r t, 0, x, h => by
    cases h
    exact ⟨_, rfl, r⟩
  | _, _, .cons r t, i + 1, x, h => paired_at (i := i) t h
theorem vals_of_refs : ∀ as : List Addr, Vals (as.map V.ref) (as.map Value.ref)
  | [] => .nil
  | _ :: as => .cons rfl (vals_of_refs as)
section
variable {X : Cx} {p pz pos cpos : Pos} {e e2 : Expr} {ta : TA}
theorem pe_listZip (k1 k2 : Bool) {K : PySem.W.Frag} (hK : X.K = K) (hc : X.calm = true) (hg : Gl X "list") (hm : X.mg "list" = none) (hgz : Gl X "zip") (hmz : X.mg "zip" = none) (ha : PA X [e, e2] ta)
    (hs : starEach [e, e2] X.env = (false, eval e X.env) :: starEach [e2] X.env := by rfl) (hpl : (backTo cpos (starEach [e2] X.env)).any (·.1) = false := by rfl)
    (hs2 : starEach [.Call (.Name "zip" pz) [e, e2] [] cpos] X.env = (false, eval (.Call (.Name "zip" pz) [e, e2] [] cpos) X.env) :: starEach [] X.env := by rfl) :
    PE X (.Call (.Name "list" p) [.Call (.Name "zip" pz) [e, e2] [] cpos] [] pos) (tListZip k1 k2 K ta) := by
  subst hK
  refine ⟨fun pins s σ H Q I h => ?_⟩
  refine wpAny_Call_Name_kw (ld_blt I hg hm (show bootBuiltins "list" = some (.type "list") by decide +kernel) (PyProof.Rows.callWith_type1 ?_ hs2 rfl))
  rw [hs2]; show wpAny _ _ (spliced ((false, eval (.Call (.Name "zip" pz) [e, e2] [] cpos) X.env) :: backTo pos (starEach [] X.env))) _ _ s
  refine Calls.spliced_cons ?_
  refine Call_ (ld_blt I hgz hmz PyProof.Rows.boot_zip (PyProof.Rows.callWith_type1 (thn (ha.run cpos pins s σ H _ I h) fun us s1 hh => ?_) hs hpl))
  obtain ⟨vs, H1, I1, r1, a, b, xs, ys, rfl, qx, qy, q⟩ := hh
  obtain ⟨u1, u2, rfl, ru, rv⟩ := vals2 r1
  cases (show u1 = Value.ref a from ru)
  cases (show u2 = Value.ref b from rv)
  obtain ⟨us, rus, pu, lu⟩ := seqK I1 qx
  obtain ⟨ws, rws, pw, lw⟩ := seqK I1 qy
  have lus := rus.length
  have lws := rws.length
  refine zip_begins2 (bgK k1 a us.toArray) (bgK k2 b ws.toArray) pu pw fun h' hz hTI hTO o1 o2 hsz hk => ?_
  refine Calls.spliced_nil ?_
  have D := PySem.W.ktu_apart s1.heap.objs.size a b pu.lt pw.lt
  have hh : X.A.in1.in1.in1.handled = none := I1.ok.hd hc
  have lo4 : ∀ c, c ∈ [s1.heap.objs.size, a] ∨ c ∈ [s1.heap.objs.size + 1, b] → c < h'.objs.size := fun c hx => by
    have la : a < s1.heap.objs.size := pu.lt
    have lb : b < s1.heap.objs.size := pw.lt
    rw [hsz]
    simp only [List.mem_cons, List.not_mem_nil, or_false] at hx
    rcases hx with (rfl | rfl) | (rfl | rfl)
    · exact Nat.lt_add_of_pos_right (by decide)
    · exact Nat.lt_of_lt_of_le la (Nat.le_add_right _ _)
    · exact Nat.add_lt_add_left (by decide) _
    · exact Nat.lt_of_lt_of_le lb (Nat.le_add_right _ _)
  have ez : (xs.zip ys).length = min us.toArray.size ws.toArray.size := by
    rw [List.length_zip, List.size_toArray, List.size_toArray, lus, lws]
  refine zl_call (s := { s1 with heap := h' }) (sepK D) (drK (prog := X.prog) (w := X.w) k1 hh D.l1i1 us.toArray) (drK (prog := X.prog) (w := X.w) k2 hh D.l2i2 ws.toArray) (by rw [← ez, List.length_zip]; omega) hz hTI ⟨_, _, hTO⟩
    ⟨itK0 o1, pu.at fun o => hk a o⟩ ⟨itK0 o2, pw.at fun o => hk b o⟩ (fun c hx => lo4 c (.inl hx)) (fun c hx => lo4 c (.inr hx)) fun h2 tk acc c as hk2 hS hl hG hacc => ?_
  have kp0 : ∀ c o, s1.heap.get? c = some o → h2.get? c = some o := fun c o ho => by
    have lc : c < s1.heap.objs.size := Heap.lt_size ho
    refine hk2 c o ?_ ?_ ?_ ?_ (hk c o ho)
    · exact Nat.ne_of_lt (Nat.lt_of_lt_of_le lc (Nat.le_add_right _ _))
    · exact Nat.ne_of_lt (Nat.lt_of_lt_of_le lc (Nat.le_add_right _ _))
    · exact Nat.ne_of_lt lc
    · exact Nat.ne_of_lt (Nat.lt_of_lt_of_le lc (Nat.le_add_right _ _))
  have lN : s1.heap.objs.size ≤ h'.objs.size := by
    rw [hsz]
    exact Nat.le_add_right _ _
  have nl : h'.objs.size ∉ as := fun z => Nat.lt_irrefl _ (hG.above _ z)
  have nd : as.Nodup := List.Pairwise.imp (fun {x y} (q : x < y) => Nat.ne_of_lt q) hG.rise
  have hi : ∀ t ∈ as, s1.heap.objs.size ≤ t := fun t ht => Nat.le_trans lN (Nat.le_of_lt (hG.above t ht))
  have fr : ∀ t ∈ as, H1 t = none := fun t ht => I1.hok.fresh (hi t ht)
  have frl : H1 h'.objs.size = none := I1.hok.fresh lN
  have pz := putZ_at as (xs.zip ys) (upd H1 h'.objs.size (.lst (as.map V.ref))) (by rw [hl, ez]) nd
  have off : ∀ t, t ∉ as → t ≠ h'.objs.size → putZ (upd H1 h'.objs.size (.lst (as.map V.ref))) as (xs.zip ys) t = H1 t := fun t n1 n2 => by rw [putZ_off as _ _ n1, upd_ne n2]
  have low : ∀ t o, s1.heap.get? t = some o → t ∉ as ∧ t ≠ h'.objs.size := fun t o ho => ⟨fun z => absurd (Heap.lt_size ho) (Nat.not_lt.mpr (hi t z)), Nat.ne_of_lt (Nat.lt_of_lt_of_le (Heap.lt_size ho) lN)⟩
  have kp : Same H1 (putZ (upd H1 h'.objs.size (.lst (as.map V.ref))) as (xs.zip ys)) := fun t o ho => by
    rw [off t (fun z => by rw [fr t z] at ho; cases ho) (fun z => by rw [z, frl] at ho; cases ho)]
    exact ho
  have atl : putZ (upd H1 h'.objs.size (.lst (as.map V.ref))) as (xs.zip ys) h'.objs.size = some (.lst (as.map V.ref)) := by rw [putZ_off as _ _ nl, upd_same]
  have J : Inv X pins σ (putZ (upd H1 h'.objs.size (.lst (as.map V.ref))) as (xs.zip ys)) ⟨h2, s1.gens, s1.drawn, tk, s1.os⟩ := by
    refine I1.call' (ch := []) rfl ⟨fun t o ho _ _ _ => kp0 t o ho, fun t o ho _ _ _ => ⟨o.slots, kp0 t o ho⟩, fun t o ho n _ => ?_, fun t o ho _ => ⟨o, kp0 t o ho⟩, fun t _ ho => kp t _ ho, fun t _ _ ho => kp t _ ho, fun t ps ho => ⟨#[], by rw [kp t _ ho]; simp⟩⟩ (fun t u ho => ?_) I1.bare fun t z => by simp at z
    · obtain ⟨z1, z2⟩ := low t o ho
      rw [off t z1 z2]
      exact n
    · by_cases ht : t ∈ as
      · obtain ⟨j, hj⟩ := List.mem_iff_getElem?.mp ht
        obtain ⟨pr, p1, p2⟩ := paired_at pz hj
        rw [p2] at ho
        cases ho
        obtain ⟨x, y, g1, g2, g3⟩ := hG.pairs j t hj
        obtain ⟨q1, q2⟩ := List.getElem?_zip_eq_some.mp p1
        obtain ⟨u, a1, a2⟩ := rus.get q1
        obtain ⟨v, b1, b2⟩ := rws.get q2
        have ex : x = u := by
          have : us.toArray[j]? = some u := by simpa using a1
          rw [this] at g1
          exact (Option.some.inj g1).symm
        have ey : y = v := by
          have : ws.toArray[j]? = some v := by simpa using b1
          rw [this] at g2
          exact (Option.some.inj g2).symm
        subst ex ey
        exact ⟨Nat.le_of_ble_eq_true rfl, [x, y], .cons a2 (.cons b2 .nil), ⟨_, g3, rfl, _, rfl⟩⟩
      · by_cases ht2 : t = h'.objs.size
        · subst ht2
          rw [atl] at ho
          cases ho
          refine ⟨by rw [List.length_map, hl, ← ez, List.length_zip]; omega, acc.toList, c, by rw [hacc]; exact vals_of_refs as, ?_⟩
          rw [Array.toArray_toList]
          exact hS
        · rw [off t ht ht2] at ho
          exact (I1.hok t u ho).stay (fun d v _ y => kp0 d v y) (fun d y => kp d _ y) fun d _ y => kp d _ y
  exact ⟨V.ref h'.objs.size, _, J, rfl, q _ _ as kp frl atl pz⟩
end

def top (i : Nat) : Stmt := PySem.Challenge.pw_vouchdoor_k02_commitments_and_relations.main.body.getD i (.Pass ⟨0, 0, 0, 0⟩)
/-! ### numbers modulo m -/
theorem pow_emod (a m : Int) : ∀ n : Nat, (a % m) ^ n % m = a ^ n % m
  | 0 => by rw [Int.pow_zero, Int.pow_zero]
  | n + 1 => by
    rw [Int.pow_succ, Int.pow_succ, Int.mul_emod, pow_emod a m n, Int.emod_emod, ← Int.mul_emod]
theorem mul_emod_l (a b m : Int) : (a % m) * b % m = a * b % m := by
  rw [Int.mul_emod, Int.emod_emod, ← Int.mul_emod]
theorem mul_emod_r (a b m : Int) : a * (b % m) % m = a * b % m := by
  rw [Int.mul_emod, Int.emod_emod, ← Int.mul_emod]
theorem emod_bd {a m : Int} (h : 0 < m) : 0 ≤ a % m ∧ a % m < m := ⟨Int.emod_nonneg _ (by omega), Int.emod_lt_of_pos _ h⟩
theorem sq_pow (s : Int) : ∀ k : Nat, (s * s) ^ k = s ^ (2 * k)
  | 0 => by rw [Int.pow_zero, Int.pow_zero]
  | k + 1 => by
    rw [Int.pow_succ, sq_pow s k, show 2 * (k + 1) = 2 * k + 1 + 1 by omega, Int.pow_succ, Int.pow_succ, Int.mul_assoc]
theorem power_odd {r s m t : Int} {n : Nat} (h : r * s ^ n % m = t % m) (o : n % 2 = 1) : (r * s % m) * (s * s % m) ^ (n / 2) % m = t % m := by
  rw [mul_emod_l, ← mul_emod_r, pow_emod, mul_emod_r, sq_pow, Int.mul_assoc, ← h]
  congr 1
  rw [show n = 2 * (n / 2) + 1 by omega, show 2 * ((2 * (n / 2) + 1) / 2) = 2 * (n / 2) by omega, Int.pow_succ, Int.mul_comm s]
theorem power_even {r s m t : Int} {n : Nat} (h : r * s ^ n % m = t % m) (o : ¬ n % 2 = 1) : r * (s * s % m) ^ (n / 2) % m = t % m := by
  rw [← mul_emod_r, pow_emod, mul_emod_r, sq_pow, ← h]
  congr 2
  rw [show 2 * (n / 2) = n by omega]

/-! ### steps -/
theorem iteD {p A B : Prop} [Decidable p] (h1 : p → A) (h2 : ¬ p → B) : if decide p = true then A else B := by
  by_cases h : p
  · rw [if_pos (decide_eq_true h)]
    exact h1 h
  · rw [if_neg (by rw [decide_eq_false h]; exact Bool.false_ne_true)]
    exact h2 h
theorem iteN {p A B : Prop} [Decidable p] (h1 : ¬ p → A) (h2 : p → B) : if (!decide p) = true then A else B := by
  by_cases h : p
  · rw [if_neg (by rw [decide_eq_true h]; decide)]
    exact h2 h
  · rw [if_pos (by rw [decide_eq_false h]; rfl)]
    exact h1 h
theorem iteB {c : Bool} {A B : Prop} (h1 : c = true → A) (h2 : c = false → B) : if c = true then A else B := by
  cases c with
  | true => exact iteT (h1 rfl)
  | false => exact iteF (h2 rfl)
theorem iteBn {c : Bool} {A B : Prop} (h1 : c = false → A) (h2 : c = true → B) : if (!c) = true then A else B := by
  cases c with
  | true => exact iteF (h2 rfl)
  | false => exact iteT (h1 rfl)
theorem kit_NoneType_tuple {K : PySem.W.Frag} : PySem.W.kitOne K (.type "NoneType") (.type "tuple") = some false := kit_ty (by decide +kernel)
theorem kit_NoneType_list {K : PySem.W.Frag} : PySem.W.kitOne K (.type "NoneType") (.type "list") = some false := kit_ty (by decide +kernel)
theorem kit_NoneType_bool {K : PySem.W.Frag} : PySem.W.kitOne K (.type "NoneType") (.type "bool") = some false := kit_ty (by decide +kernel)
theorem kit_NoneType_int {K : PySem.W.Frag} : PySem.W.kitOne K (.type "NoneType") (.type "int") = some false := kit_ty (by decide +kernel)
theorem kit_NoneType_str {K : PySem.W.Frag} : PySem.W.kitOne K (.type "NoneType") (.type "str") = some false := kit_ty (by decide +kernel)
theorem kit_bool_tuple {K : PySem.W.Frag} : PySem.W.kitOne K (.type "bool") (.type "tuple") = some false := kit_ty (by decide +kernel)
theorem kit_bool_list {K : PySem.W.Frag} : PySem.W.kitOne K (.type "bool") (.type "list") = some false := kit_ty (by decide +kernel)
theorem kit_bool_bool {K : PySem.W.Frag} : PySem.W.kitOne K (.type "bool") (.type "bool") = some true := kit_ty (by decide +kernel)
theorem kit_bool_int {K : PySem.W.Frag} : PySem.W.kitOne K (.type "bool") (.type "int") = some true := kit_ty (by decide +kernel)
theorem kit_bool_str {K : PySem.W.Frag} : PySem.W.kitOne K (.type "bool") (.type "str") = some false := kit_ty (by decide +kernel)
theorem kit_int_tuple {K : PySem.W.Frag} : PySem.W.kitOne K (.type "int") (.type "tuple") = some false := kit_ty (by decide +kernel)
theorem kit_int_list {K : PySem.W.Frag} : PySem.W.kitOne K (.type "int") (.type "list") = some false := kit_ty (by decide +kernel)
theorem kit_int_bool {K : PySem.W.Frag} : PySem.W.kitOne K (.type "int") (.type "bool") = some false := kit_ty (by decide +kernel)
theorem kit_int_int {K : PySem.W.Frag} : PySem.W.kitOne K (.type "int") (.type "int") = some true := kit_ty (by decide +kernel)
theorem kit_int_str {K : PySem.W.Frag} : PySem.W.kitOne K (.type "int") (.type "str") = some false := kit_ty (by decide +kernel)
theorem kit_str_tuple {K : PySem.W.Frag} : PySem.W.kitOne K (.type "str") (.type "tuple") = some false := kit_ty (by decide +kernel)
theorem kit_str_list {K : PySem.W.Frag} : PySem.W.kitOne K (.type "str") (.type "list") = some false := kit_ty (by decide +kernel)
theorem kit_str_bool {K : PySem.W.Frag} : PySem.W.kitOne K (.type "str") (.type "bool") = some false := kit_ty (by decide +kernel)
theorem kit_str_int {K : PySem.W.Frag} : PySem.W.kitOne K (.type "str") (.type "int") = some false := kit_ty (by decide +kernel)
theorem kit_str_str {K : PySem.W.Frag} : PySem.W.kitOne K (.type "str") (.type "str") = some true := kit_ty (by decide +kernel)
theorem kit_list_tuple {K : PySem.W.Frag} : PySem.W.kitOne K (.type "list") (.type "tuple") = some false := kit_ty (by decide +kernel)
theorem kit_list_list {K : PySem.W.Frag} : PySem.W.kitOne K (.type "list") (.type "list") = some true := kit_ty (by decide +kernel)
theorem kit_list_bool {K : PySem.W.Frag} : PySem.W.kitOne K (.type "list") (.type "bool") = some false := kit_ty (by decide +kernel)
theorem kit_list_int {K : PySem.W.Frag} : PySem.W.kitOne K (.type "list") (.type "int") = some false := kit_ty (by decide +kernel)
theorem kit_list_str {K : PySem.W.Frag} : PySem.W.kitOne K (.type "list") (.type "str") = some false := kit_ty (by decide +kernel)
theorem kit_tuple_tuple {K : PySem.W.Frag} : PySem.W.kitOne K (.type "tuple") (.type "tuple") = some true := kit_ty (by decide +kernel)
theorem kit_tuple_list {K : PySem.W.Frag} : PySem.W.kitOne K (.type "tuple") (.type "list") = some false := kit_ty (by decide +kernel)
theorem kit_tuple_bool {K : PySem.W.Frag} : PySem.W.kitOne K (.type "tuple") (.type "bool") = some false := kit_ty (by decide +kernel)
theorem kit_tuple_int {K : PySem.W.Frag} : PySem.W.kitOne K (.type "tuple") (.type "int") = some false := kit_ty (by decide +kernel)
theorem kit_tuple_str {K : PySem.W.Frag} : PySem.W.kitOne K (.type "tuple") (.type "str") = some false := kit_ty (by decide +kernel)
theorem iteCT {c : Bool} {A B : Prop} (hc : c = true) (h : A) : if c = true then A else B := by
  rw [if_pos hc]
  exact h
theorem iteCF {c : Bool} {A B : Prop} (hc : c = false) (h : B) : if c = true then A else B := by
  rw [if_neg (by rw [hc]; exact Bool.false_ne_true)]
  exact h
theorem propOnly {p : Prop} (h : p) : p := h
/-- where the walk is to stop: between two turns of a loop -/
inductive At (p : Prop) : Prop where
  | of (h : p)
  | also (h : p)
theorem At.out {p : Prop} : At p → p
  | .of h => h
  | .also h => h
theorem len_size {n : Nat} (h : n ≤ 100000) : n < sizeLine := Nat.lt_of_le_of_lt h (by decide)

/-! ### heaps -/
theorem same_new {H : Hp} {p : Addr} {o : HO} (h : H p = none) : Same H (upd H p o) := fun b x e => by
  rw [upd_ne (ne_of_none e h)]
  exact e
/-- a new object of our own is changed -/
theorem same_mut {H0 H : Hp} {p : Addr} {o : HO} (s : Same H0 H) (h : H0 p = none) : Same H0 (upd H p o) := fun b x e => by
  rw [upd_ne (ne_of_none e h)]
  exact s b x e
/-- the list of a pool, by its look: a reference, then an int -/
def poolV : List V → Bool
  | .ref _ :: .int _ :: _ => true
  | _ => false
def poolO : HO → Bool
  | .lst xs => poolV xs
  | _ => false
/-- all that was tracked is as it was, but for pools -/
def Keep (H H' : Hp) : Prop := ∀ b o, H b = some o → poolO o = false → H' b = some o
theorem Keep.refl (H : Hp) : Keep H H := fun _ _ h _ => h
theorem Keep.trans {H H1 H2 : Hp} (a : Keep H H1) (b : Keep H1 H2) : Keep H H2 := fun c o h p => b c o (a c o h p) p
theorem keep_same {H H' : Hp} (s : Same H H') : Keep H H' := fun b o h _ => s b o h
theorem keep_new {H : Hp} {p : Addr} {o : HO} (h : H p = none) : Keep H (upd H p o) := keep_same (same_new h)
theorem keep_mut {H0 H : Hp} {p : Addr} {o : HO} (s : Keep H0 H) (h : H0 p = none) : Keep H0 (upd H p o) := fun b x e f => by
  rw [upd_ne (ne_of_none e h)]
  exact s b x e f
theorem keep_pool {H0 H : Hp} {p : Addr} {o u : HO} (s : Keep H0 H) (h : H0 p = some u) (hu : poolO u = true) : Keep H0 (upd H p o) := fun b x e f => by
  have n : b ≠ p := fun z => by
    subst z
    rw [h] at e
    cases e
    rw [hu] at f
    cases f
  rw [upd_ne n]
  exact s b x e f
/-! ### data -/
mutual
inductive Rp (H : Hp) : V → PyData → Prop
  | non : Rp H .non .none
  | bl (b : Bool) : Rp H (.bl b) (.bool b)
  | int (i : Int) : Rp H (.int i) (.int i)
  | str (x : Str) : Rp H (.str x) (.str x)
  | lst {a : Addr} {xs : List V} {ds : List PyData} : H a = some (.lst xs) → poolV xs = false → RpAll H xs ds → Rp H (.ref a) (.list ds)
  | tup {a : Addr} {xs : List V} {ds : List PyData} : H a = some (.tup xs) → RpAll H xs ds → Rp H (.ref a) (.tuple ds)
inductive RpAll (H : Hp) : List V → List PyData → Prop
  | nil : RpAll H [] []
  | cons {v : V} {vs : List V} {d : PyData} {ds : List PyData} : Rp H v d → RpAll H vs ds → RpAll H (v :: vs) (d :: ds)
end
mutual
theorem Rp.keep {H H' : Hp} (k : Keep H H') : ∀ {v : V} {d : PyData}, Rp H v d → Rp H' v d
  | _, _, .non => .non
  | _, _, .bl b => .bl b
  | _, _, .int i => .int i
  | _, _, .str x => .str x
  | _, _, .lst h p r => .lst (k _ _ h p) p (RpAll.keep k r)
  | _, _, .tup h r => .tup (k _ _ h rfl) (RpAll.keep k r)
theorem RpAll.keep {H H' : Hp} (k : Keep H H') : ∀ {vs : List V} {ds : List PyData}, RpAll H vs ds → RpAll H' vs ds
  | _, _, .nil => .nil
  | _, _, .cons a r => .cons (Rp.keep k a) (RpAll.keep k r)
end
theorem RpAll.length {H : Hp} : ∀ {vs : List V} {ds : List PyData}, RpAll H vs ds → vs.length = ds.length
  | _, _, .nil => rfl
  | _, _, .cons _ r => congrArg (· + 1) (RpAll.length r)
theorem RpAll.get {H : Hp} : ∀ {vs : List V} {ds : List PyData} {i : Nat} {d : PyData}, RpAll H vs ds → ds[i]? = some d → ∃ v, vs[i]? = some v ∧ Rp H v d
  | _, _, _, _, .nil, e => by simp at e
  | _, _, 0, _, .cons a _, e => by
    simp only [List.getElem?_cons_zero, Option.some.injEq] at e
    subst e
    exact ⟨_, rfl, a⟩
  | _, _, i + 1, _, .cons _ r, e => by
    simp only [List.getElem?_cons_succ] at e
    obtain ⟨v, h1, h2⟩ := RpAll.get (i := i) r e
    exact ⟨v, h1, h2⟩
theorem RpAll.getV {H : Hp} : ∀ {vs : List V} {ds : List PyData} {i : Nat} {v : V}, RpAll H vs ds → vs[i]? = some v → ∃ d, ds[i]? = some d ∧ Rp H v d
  | _, _, _, _, .nil, e => by simp at e
  | _, _, 0, _, .cons a _, e => by
    simp only [List.getElem?_cons_zero, Option.some.injEq] at e
    subst e
    exact ⟨_, rfl, a⟩
  | _, _, i + 1, _, .cons _ r, e => by
    simp only [List.getElem?_cons_succ] at e
    obtain ⟨d, h1, h2⟩ := RpAll.getV (i := i) r e
    exact ⟨d, h1, h2⟩
theorem rp_ints {H : Hp} : ∀ ns : List Int, RpAll H (ns.map V.int) (ns.map PyData.int)
  | [] => .nil
  | n :: ns => .cons (.int n) (rp_ints ns)
theorem pool_ints (ns : List Int) : poolV (ns.map V.int) = false := by
  cases ns <;> rfl
/-! ### pools -/
/-- at p: the pool of a law, whatever it holds; its copy of the script at c -/
def PoolAt (H : Hp) (p c : Addr) : Prop := ∃ (ns : List Int) (i m s b z : Int),
  H p = some (.lst [.ref c, .int i, .int m, .int s, .int b, .int z]) ∧ H c = some (.lst (ns.map V.int)) ∧ 0 ≤ i ∧ 0 ≤ s ∧ s < 2147483647
theorem PoolAt.same {H H' : Hp} {p c : Addr} (s : Same H H') (h : PoolAt H p c) : PoolAt H' p c := by
  obtain ⟨ns, i, m, t, b, z, h1, h2, r⟩ := h
  exact ⟨ns, i, m, t, b, z, s _ _ h1, s _ _ h2, r⟩
/-- another list is changed beside it -/
theorem PoolAt.mut {H : Hp} {p c l : Addr} {o : HO} (h : PoolAt H p c) (n : l ≠ p) (nc : l ≠ c) : PoolAt (upd H l o) p c := by
  obtain ⟨ns, i, m, t, b, z, h1, h2, r⟩ := h
  exact ⟨ns, i, m, t, b, z, by rw [upd_ne n.symm]; exact h1, by rw [upd_ne nc.symm]; exact h2, r⟩
theorem PoolAt.at {H : Hp} {p c : Addr} (h : PoolAt H p c) : ∃ xs, H p = some (.lst xs) ∧ poolV xs = true := by
  obtain ⟨ns, i, m, t, b, z, h1, _⟩ := h
  exact ⟨_, h1, rfl⟩
theorem PoolAt.ne {H : Hp} {p c l : Addr} (h : PoolAt H p c) (f : H l = none) : l ≠ p ∧ l ≠ c := by
  obtain ⟨ns, i, m, t, b, z, h1, h2, _⟩ := h
  exact ⟨(ne_of_none h1 f).symm, (ne_of_none h2 f).symm⟩

/-! ### built-ins -/
theorem bt_isinstance : bootBuiltins "isinstance" = some (.builtin "isinstance") := by decide +kernel
theorem bt_len : bootBuiltins "len" = some (.builtin "len") := by decide +kernel
theorem bt_sum : bootBuiltins "sum" = some (.builtin "sum") := by decide +kernel
theorem bt_max : bootBuiltins "max" = some (.builtin "max") := by decide +kernel
theorem bt_min : bootBuiltins "min" = some (.builtin "min") := by decide +kernel
theorem bt_abs : bootBuiltins "abs" = some (.builtin "abs") := by decide +kernel
theorem bt_any : bootBuiltins "any" = some (.builtin "any") := by decide +kernel
theorem bt_all : bootBuiltins "all" = some (.builtin "all") := by decide +kernel
theorem bt_sorted : bootBuiltins "sorted" = some (.builtin "sorted") := by decide +kernel
theorem bt_int : bootBuiltins "int" = some (.type "int") := by decide +kernel
theorem bt_bool : bootBuiltins "bool" = some (.type "bool") := by decide +kernel
theorem bt_str : bootBuiltins "str" = some (.type "str") := by decide +kernel
theorem bt_list : bootBuiltins "list" = some (.type "list") := by decide +kernel
theorem bt_tuple : bootBuiltins "tuple" = some (.type "tuple") := by decide +kernel
theorem bt_dict : bootBuiltins "dict" = some (.type "dict") := by decide +kernel
structure Blt (mg : Str → Option Value) : Prop where
  isinstance : mg "isinstance" = none
  len : mg "len" = none
  sum : mg "sum" = none
  max : mg "max" = none
  min : mg "min" = none
  abs : mg "abs" = none
  any : mg "any" = none
  all : mg "all" = none
  sorted : mg "sorted" = none
  int : mg "int" = none
  bool : mg "bool" = none
  str : mg "str" = none
  list : mg "list" = none
  tuple : mg "tuple" = none
  dict : mg "dict" = none
  range : mg "range" = none
  enumerate : mg "enumerate" = none
  zip : mg "zip" = none

theorem at_ints {ns : List Int} {v : Int} (h0 : 0 ≤ v) (h1 : v < ns.length) : ∃ n, n ∈ ns ∧ atI (ns.map V.int) v = some (.int n) := by
  have hlt : v.toNat < ns.length := by omega
  refine ⟨ns[v.toNat], List.getElem_mem hlt, at_of (j := v.toNat) (by omega) ?_⟩
  rw [List.getElem?_map, List.getElem?_eq_getElem hlt]
  rfl

/-! ### rules with the written part told (so that they serve in a comprehension's block, too) -/
def rLen (K : PySem.W.Frag) : List V → Hp → VK → Prop := fun xs H Q => ∃ p ys, xs = [V.ref p] ∧ (SqL K H p ys ∨ SqT K H p ys) ∧ Q (.int (ys.length : Nat)) H
def rListOf (K : PySem.W.Frag) : List V → Hp → VK → Prop := fun xs H Q => ∃ p ys, xs = [V.ref p] ∧ (SqL K H p ys ∨ SqT K H p ys) ∧ ∀ l, H l = none → Q (.ref l) (upd H l (.lst ys))
def rTupOf (K : PySem.W.Frag) : List V → Hp → VK → Prop := fun xs H Q => ∃ p ys, xs = [V.ref p] ∧ ((SqL K H p ys ∧ ∀ l, H l = none → Q (.ref l) (upd H l (.tup ys))) ∨ (SqT K H p ys ∧ Q (.ref p) H))
section
variable {X : Cx} {K : PySem.W.Frag} {e o b : Expr} {es : List Expr} {ta to : TE} {t : TA} {f : Str} {pos : Pos}
theorem kfld (hK : X.K = K) (he : PE X e ta) (hb : attributeBase e f X.env (eval e X.env) = eval e X.env := by rfl) : PE X (.Attribute e f pos) (tFld K ta f) := by
  subst hK
  exact pe_fld he hb
theorem kixl (hK : X.K = K) : IxR X (rIxL K) := by
  subst hK
  exact ix_list
theorem kixt (hK : X.K = K) : IxR X (rIxT K) := by
  subst hK
  exact ix_tup
theorem kixs (hK : X.K = K) : IxR X (rIx K) := by
  subst hK
  exact ix_seq
theorem ksll (hK : X.K = K) : SlR X (rSlL K) := by
  subst hK
  exact sl_list
theorem kslt (hK : X.K = K) : SlR X (rSlT K) := by
  subst hK
  exact sl_tup
theorem kin (hK : X.K = K) : OpR X (compareOp .In) (rIn K false) := by
  subst hK
  exact op_in_seq
theorem knin (hK : X.K = K) : OpR X (compareOp .NotIn) (rIn K true) := by
  subst hK
  exact op_notIn_seq
theorem keqd (hK : X.K = K) (hu : X.A.units + 64 < cLine) : OpR X (compareOp .Eq) (rEqD K) := by
  subst hK
  exact op_eqD hu
theorem kned (hK : X.K = K) (hu : X.A.units + 64 < cLine) : OpR X (compareOp .NotEq) (rNeD K) := by
  subst hK
  exact op_neD hu
theorem kcatt (hK : X.K = K) : OpR X (binaryOp .Add) (rCatT K) := by
  subst hK
  exact op_catT
theorem klen (hK : X.K = K) : CallR X (.builtin "len") (rLen K) := by
  subst hK
  exact call_len_seq
theorem klist (hK : X.K = K) : CallR X (.type "list") (rListOf K) := by
  subst hK
  exact call_list_of
theorem ktuple (hK : X.K = K) : CallR X (.type "tuple") (rTupOf K) := by
  subst hK
  exact call_tuple_of
theorem kisi (hK : X.K = K) : CallR X (.builtin "isinstance") (rIsi K) := by
  subst hK
  exact call_isi
theorem kisiT (hK : X.K = K) : CallR X (.builtin "isinstance") (rIsiT K) := by
  subst hK
  exact call_isiT
theorem kany (hK : X.K = K) (hc : X.calm = true) : CallR X (.builtin "any") (rAny K) := by
  subst hK
  exact cr_any hc
theorem kall (hK : X.K = K) (hc : X.calm = true) : CallR X (.builtin "all") (rAll K) := by
  subst hK
  exact cr_all hc
theorem ksum (hK : X.K = K) (hc : X.calm = true) : CallR X (.builtin "sum") (rSum K) := by
  subst hK
  exact cr_sum hc
theorem kmax (hK : X.K = K) (hc : X.calm = true) : CallR X (.builtin "max") (rMax K) := by
  subst hK
  exact cr_max hc
theorem kindex (hK : X.K = K) : MtR X "list.index" (rIndex K) := by
  subst hK
  exact mt_index
theorem kpil (hK : X.K = K) {tg l : Expr} {tl : TE} (h : PE X l tl) : PI X tg l (iList K tl) := by
  subst hK
  exact pi_list h
theorem kpit (hK : X.K = K) {tg l : Expr} {tl : TE} (h : PE X l tl) : PI X tg l (iTup K tl) := by
  subst hK
  exact pi_tup h
theorem kgtup (hK : X.K = K) {es : List Expr} {k n : Nat} {t : TGs} (hc : X.calm = true) (h : PGs X es t) (hn : (assignEach es X.env).length = n := by rfl) (hst : (assignEach es X.env).findIdx? (·.1) = none := by rfl) : PG X (.Tuple es k pos) (gTup K n t) := by
  subst hK
  exact pg_tup hc h hn hst
end

/-! ### a walk over a list or a tuple, the kind told -/
def ItS (k : Bool) (K : PySem.W.Frag) (a : Addr) : It := match k with
  | true => Itt K a
  | false => Itl K a
def iK (k : Bool) (K : PySem.W.Frag) (tl : TE) : TI := fun σ H R => tl σ H fun x H1 => ∃ a, x = .ref a ∧ (∃ xs, SqK k K H1 a xs) ∧ R (ItS k K a) H1
theorem pi_K (k : Bool) {X : Cx} {K : PySem.W.Frag} (hK : X.K = K) {tg l : Expr} {tl : TE} (h : PE X l tl) : PI X tg l (iK k K tl) := by
  subst hK
  cases k with
  | true => exact pi_tup h
  | false => exact pi_list h
theorem for_K {k : Bool} {K : PySem.W.Frag} {a : Addr} {xs : List V} {g : TG} {tb : TS} {D : Ends} {σ : L2.St} {H : Hp} (Pv : Nat → L2.St → Hp → Prop) (h0 : Pv 0 σ H) (hl : ∀ i σ H, i ≤ xs.length → Pv i σ H → SqK k K H a xs)
    (hs : ∀ i x σ H, xs[i]? = some x → Pv i σ H → g x σ H fun σ2 H2 => tb { D with nx := Pv (i + 1), ct := Pv (i + 1), bk := D.nx } σ2 H2) (hd : ∀ σ H, Pv xs.length σ H → D.nx σ H) :
    ∃ W : Nat → Nat → L2.St → Hp → Prop, (∃ m, W 0 m σ H) ∧ ∀ i m σ H, W i m σ H →
      ((ItS k K a).stop i H ∧ D.nx σ H) ∨ ((ItS k K a).go i H ∧ ∃ N : L2.St → Hp → Prop, (∀ σ' H', N σ' H' → ∃ m', m' < m ∧ W (i + 1) m' σ' H') ∧ ∀ x H', (ItS k K a).yld i H x H' → g x σ H' fun σ2 H2 => tb { D with nx := N, ct := N, bk := D.nx } σ2 H2) := by
  cases k with
  | true => exact for_tup Pv h0 hl hs hd
  | false => exact for_list Pv h0 hl hs hd
theorem lc_K {k : Bool} {K : PySem.W.Frag} {a : Addr} {xs : List V} {g : TG} {tt : TT} {te : TE} {vs : List Nat} {σ : L2.St} {H1 : Hp} {D : Addr} {Qd : Hp → Prop} (Pv : Nat → Hp → Prop) (h0 : Pv 0 (upd H1 D (.lst []))) (hl : ∀ i H, i ≤ xs.length → Pv i H → SqK k K H a xs)
    (hs : ∀ i x H, xs[i]? = some x → Pv i H → g x (wipe σ vs) H fun σ2 H2 => wipe σ2 vs = wipe σ vs ∧ tt σ2 H2 fun b H3 =>
      if b = true then te σ2 H3 fun y H4 => ∃ acc, H4 D = some (.lst acc) ∧ acc.length < sizeLine ∧ Pv (i + 1) (upd H4 D (.lst (acc ++ [y]))) else Pv (i + 1) H3) (hd : ∀ H, Pv xs.length H → Qd H) :
    ∃ W : Nat → Nat → Hp → Prop, (∃ m, W 0 m (upd H1 D (.lst []))) ∧ ∀ i m H, W i m H →
      ((ItS k K a).stop i H ∧ Qd H) ∨ ((ItS k K a).go i H ∧ ∃ Nx : Hp → Prop, (∀ H', Nx H' → ∃ m', m' < m ∧ W (i + 1) m' H') ∧ ∀ x H', (ItS k K a).yld i H x H' → g x (wipe σ vs) H' fun σ2 H2 => wipe σ2 vs = wipe σ vs ∧ tt σ2 H2 fun b H3 =>
        if b = true then te σ2 H3 fun y H4 => ∃ acc, H4 D = some (.lst acc) ∧ acc.length < sizeLine ∧ Nx (upd H4 D (.lst (acc ++ [y]))) else Nx H3) := by
  cases k with
  | true => exact lc_tup Pv h0 hl hs hd
  | false => exact lc_list Pv h0 hl hs hd
theorem SqK.same {k : Bool} {K : PySem.W.Frag} {H H' : Hp} {a : Addr} {xs : List V} (s : Same H H') (h : SqK k K H a xs) : SqK k K H' a xs := by
  cases k with
  | true =>
    rcases h with (h | ⟨o, h⟩) | h
    · exact .inl (.inl (s _ _ h))
    · exact .inl (.inr ⟨o, s _ _ h⟩)
    · exact .inr h
  | false => exact Same.seq s h

theorem for_enum {K : PySem.W.Frag} {a : Addr} {xs : List V} {g : TG} {tb : TS} {D : Ends} {σ : L2.St} {H : Hp} (Pv : Nat → L2.St → Hp → Prop) (h0 : Pv 0 σ H) (hq : ∀ i σ H, Pv i σ H → SqL K H a xs)
    (hs : ∀ (i : Nat) (x : V) (T : Addr) (σ : L2.St) (H : Hp), xs[i]? = some x → Pv i σ H → H T = none → g (.ref T) σ (upd H T (.tup [.int (i : Nat), x])) fun σ2 H2 => tb { D with nx := Pv (i + 1), ct := Pv (i + 1), bk := D.nx } σ2 H2) (hd : ∀ σ H, Pv xs.length σ H → D.nx σ H) :
    ∃ W : Nat → Nat → L2.St → Hp → Prop, (∃ m, W 0 m σ H) ∧ ∀ i m σ H, W i m σ H →
      ((Ite K a).stop i H ∧ D.nx σ H) ∨ ((Ite K a).go i H ∧ ∃ N : L2.St → Hp → Prop, (∀ σ' H', N σ' H' → ∃ m', m' < m ∧ W (i + 1) m' σ' H') ∧ ∀ v H', (Ite K a).yld i H v H' → g v σ H' fun σ2 H2 => tb { D with nx := N, ct := N, bk := D.nx } σ2 H2) := by
  refine ⟨fun i m σ H => m + i = xs.length ∧ Pv i σ H, ⟨xs.length, rfl, h0⟩, ?_⟩
  rintro i m σ H ⟨hm, p⟩
  have qx := hq i σ H p
  by_cases hlt : i < xs.length
  · refine .inr ⟨⟨xs, xs[i], qx, List.getElem?_eq_getElem hlt⟩, Pv (i + 1), fun σ' H' p' => ⟨m - 1, by omega, by omega, p'⟩, fun v H' yl => ?_⟩
    obtain ⟨T, x, rfl, hT, rfl, f1⟩ := yl
    exact hs i x T σ H (f1 xs qx) p hT
  · have e : i = xs.length := by omega
    subst e
    exact .inl ⟨⟨xs, qx, Nat.le_refl _⟩, hd σ H p⟩
theorem pe_gint {X : Cx} {x : Str} {i : Int} {pos : Pos} (h : ∃ t, X.mg x = some (.int i t)) (hg : Gl X x := by rfl) (hd : (x == ("__debug__" : Str)) = false := by decide) : PE X (.Name x pos) (tC (.int i)) := by
  obtain ⟨t, h⟩ := h
  exact pe_glob hg h ⟨_, rfl⟩ (hd := hd)
theorem cut_take (xs : List V) (i : Nat) : cutV xs none (some (i : Int)) = xs.take i := by
  unfold cutV
  rw [HT.sIx_nat, HT.sIx_none, List.drop_zero, Nat.sub_zero, ← List.take_eq_take_min]
theorem cut_drop (xs : List V) (i : Nat) : cutV xs (some (i : Int)) none = xs.drop i := by
  unfold cutV
  rw [HT.sIx_nat, HT.sIx_none]
  by_cases h : i ≤ xs.length
  · rw [Nat.min_eq_left h]
    exact List.take_of_length_le (by rw [List.length_drop]; omega)
  · rw [Nat.min_eq_right (by omega), List.drop_eq_nil_of_le (Nat.le_refl _), List.drop_eq_nil_of_le (by omega), List.take_nil]
theorem inV_ints (n : Int) (ns : List Int) : inV (.int n) (ns.map V.int) = decide (n ∈ ns) := by
  unfold inV
  rw [List.any_map]
  rw [Bool.eq_iff_iff, decide_eq_true_eq, List.any_eq_true]
  refine ⟨fun ⟨y, hy, e⟩ => ?_, fun h => ⟨n, h, ?_⟩⟩
  · have e' : (y == n) = true := e
    rw [← eq_of_beq e']
    exact hy
  · show (n == n) = true
    exact beq_self_eq_true n
theorem flat_ints (ns : List Int) : (ns.map V.int).all flatV = true := by
  rw [List.all_map]
  exact List.all_eq_true.mpr fun _ _ => rfl
theorem sq_upd {K : PySem.W.Frag} {H : Hp} {b x C dx : Addr} {xs : List V} {fs : List (Str × V)} {o : HO} (h : SqL K H b xs) (hx : H x = some (.ins C dx fs)) : SqL K (upd H x o) b xs := by
  rcases h with (h | ⟨u, h⟩) | h
  · exact .inl (.inl (by rw [upd_ne (ne_of h hx (by intro z; cases z))]; exact h))
  · exact .inl (.inr ⟨u, by rw [upd_ne (ne_of h hx (by intro z; cases z))]; exact h⟩)
  · exact .inr h
theorem map_get {α : Type} {f : α → V} {l : List α} {i : Nat} {x : V} (h : (l.map f)[i]? = some x) : ∃ a, l[i]? = some a ∧ x = f a := by
  rw [List.getElem?_map] at h
  cases e : l[i]? with
  | none =>
    rw [e] at h
    cases h
  | some a =>
    rw [e] at h
    exact ⟨a, rfl, (Option.some.inj h).symm⟩
theorem take_map_snoc {α : Type} {f : α → V} {l : List α} {i : Nat} {a : α} (h : l[i]? = some a) : (l.take (i + 1)).map f = (l.take i).map f ++ [f a] := by
  rw [List.take_add_one, h, List.map_append]
  rfl

local macro_rules | `(tactic| walk_at "hp") => `(tactic| first
  | (with_reducible assumption)
  | exact upd_same
  | (refine (upd_ne (by with_reducible assumption)).trans ?_; walk_at "hp"))
local macro_rules | `(tactic| walk_at "kit") => `(tactic| first
  | with_reducible exact kit_NoneType_tuple
  | with_reducible exact kit_NoneType_list
  | with_reducible exact kit_NoneType_bool
  | with_reducible exact kit_NoneType_int
  | with_reducible exact kit_NoneType_str
  | with_reducible exact kit_bool_tuple
  | with_reducible exact kit_bool_list
  | with_reducible exact kit_bool_bool
  | with_reducible exact kit_bool_int
  | with_reducible exact kit_bool_str
  | with_reducible exact kit_int_tuple
  | with_reducible exact kit_int_list
  | with_reducible exact kit_int_bool
  | with_reducible exact kit_int_int
  | with_reducible exact kit_int_str
  | with_reducible exact kit_str_tuple
  | with_reducible exact kit_str_list
  | with_reducible exact kit_str_bool
  | with_reducible exact kit_str_int
  | with_reducible exact kit_str_str
  | with_reducible exact kit_list_tuple
  | with_reducible exact kit_list_list
  | with_reducible exact kit_list_bool
  | with_reducible exact kit_list_int
  | with_reducible exact kit_list_str
  | with_reducible exact kit_tuple_tuple
  | with_reducible exact kit_tuple_list
  | with_reducible exact kit_tuple_bool
  | with_reducible exact kit_tuple_int
  | with_reducible exact kit_tuple_str)
local macro_rules | `(tactic| walk_at "ty") => `(tactic| first
  | with_reducible exact .base .non
  | with_reducible exact .base (.bl _)
  | with_reducible exact .base (.int _)
  | with_reducible exact .base (.str _)
  | exact .base (.lst (by walk_at "hp"))
  | exact .base (.tup (by walk_at "hp")))
local macro_rules | `(tactic| walk_at "sq") => `(tactic| first
  | (with_reducible assumption)
  | exact SqL.of (by walk_at "hp")
  | exact SqT.of (by walk_at "hp")
  | ((with_reducible refine (?_ : SqL _ _ _ _)); assumption)
  | ((with_reducible refine (?_ : SqT _ _ _ _)); assumption))
local macro_rules | `(tactic| walk_at "eq") => `(tactic| ((with_reducible refine (?_ : @Eq _ _ _)); rfl))
local macro_rules | `(tactic| walk_at "side") => `(tactic| first
  | (with_reducible assumption)
  | walk_at "eq"
  | ((with_reducible refine (?_ : _ ≤ sizeLine)); exact Nat.le_of_ble_eq_true rfl)
  | omega
  | (show (0 : Int) < _; omega)
  | ((with_reducible refine (?_ : SqL _ _ _ _)); walk_at "sq")
  | ((with_reducible refine (?_ : SqT _ _ _ _)); walk_at "sq")
  | ((with_reducible refine (?_ : _ = some _)); walk_at "hp")
  | ((with_reducible refine (?_ : tyV _ _ _ _)); exact Or.inl ⟨rfl, _, SqL.of (by walk_at "hp")⟩)
  | exact flat_ints _
  | ((with_reducible refine (?_ : Cls _ _)); assumption)
  | ((with_reducible refine (?_ : NoAttr _ _ _)); assumption)
  | ((with_reducible refine (?_ : List.length _ < 1000)); exact Nat.le_of_ble_eq_true rfl)
  | exact ⟨_, SqL.of (by walk_at "hp")⟩
  | exact ⟨_, SqT.of (by walk_at "hp")⟩
  | (show CMul _ _; first | (exact Or.inl ⟨by omega, by omega⟩) | (exact Or.inr ⟨by omega, by omega⟩))
  | (show CDiv _ _; exact ⟨by omega, by omega⟩)
  | (show CPow _ _; exact ⟨by decide, by decide, by decide⟩))
local macro_rules | `(tactic| walk_at "size") => `(tactic| exact len_size (by (try rw [List.length_map]); omega))
local macro_rules | `(tactic| walk_at "s") => `(tactic| first
  | refine ⟨propOnly (by walk_at "side"), ?_⟩
  | refine ⟨_, (by walk_at "eq"), ?_⟩
  | refine ⟨_, _, (by walk_at "eq"), (by walk_at "eq"), ?_⟩
  | refine ⟨_, _, (by walk_at "eq"), propOnly (by walk_at "side"), ?_⟩
  | refine ⟨_, _, (by walk_at "eq"), ?_⟩
  | refine ⟨_, _, _, _, (by walk_at "eq"), (by walk_at "eq"), (by walk_at "sq"), (by walk_at "eq"), ?_⟩
  | refine ⟨_, _, _, _, (by walk_at "eq"), (by walk_at "eq"), (by walk_at "hp"), (by walk_at "eq"), ?_⟩
  | refine ⟨_, _, (by walk_at "eq"), .inl (by walk_at "sq"), ?_⟩
  | refine ⟨_, _, (by walk_at "eq"), .inr (by walk_at "sq"), ?_⟩
  | refine ⟨_, _, _, _, _, (by walk_at "eq"), .ty _, (by walk_at "ty"), (by walk_at "kit"), ?_⟩
  | refine Or.inl ⟨_, (by walk_at "eq"), ?_⟩
  | refine ⟨_, _, _, (by walk_at "eq"), (by walk_at "eq"), (by walk_at "hp"), propOnly (by walk_at "size"), ?_⟩
  | refine ⟨_, _, _, (by walk_at "eq"), propOnly (by walk_at "side"), ?_⟩
  | refine ⟨_, _, _, _, (by walk_at "eq"), propOnly (by walk_at "side"), ?_⟩
  | refine ⟨_, _, _, _, _, (by walk_at "eq"), propOnly (by walk_at "side"), ?_⟩
  | refine ⟨_, _, _, _, _, _, (by walk_at "eq"), propOnly (by walk_at "side"), ?_⟩
  | refine ⟨_, _, _, (by walk_at "eq"), ?_⟩
  | refine ⟨_, _, _, _, (by walk_at "eq"), ?_⟩
  | ((with_reducible refine iteCT ?hc ?hr); case hc => rfl)
  | ((with_reducible refine iteCF ?hc ?hr); case hc => rfl))
local macro_rules | `(tactic| walk_at "go") => `(tactic| repeat walk_at "s")


/-! ### power, is_prime, inverse -/
abbrev s_is_prime : Stmt := top 10
theorem sc_is_prime : FnScope ["number", "divisor"] ["number"] (defScope s_is_prime) := ⟨rfl, rfl, rfl, by decide +kernel, rfl, by decide +kernel, by decide +kernel⟩
abbrev s_power : Stmt := top 11
theorem sc_power : FnScope ["base", "exponent", "modulus", "result", "square", "left"] ["base", "exponent", "modulus"] (defScope s_power) := ⟨rfl, rfl, rfl, by decide +kernel, rfl, by decide +kernel, by decide +kernel⟩
section
variable {P : Program} {w : World} {K : PySem.W.Frag} {mg : Str → Option Value} {base : Heap}
def Pr (n : Int) : Prop := 2 ≤ n ∧ ∀ d : Int, 2 ≤ d → d * d ≤ n → n % d ≠ 0
def spPower : Sp := fun vs H Q _ => ∃ a e m : Int, vs = [.int a, .int e, .int m] ∧ 0 ≤ e ∧ 0 < m ∧ m < 2147483648 ∧ Q (.int (a ^ e.toNat % m)) H
theorem ok_power {f : Addr} {fd : FuncData} (F : Fun K "power" "power" s_power f fd) : FnOk P w K mg base CX0 1 f fd ["base", "exponent", "modulus"] spPower := by
  refine F.ok sc_power (fun vs H Q E h => ?_) (fun cdv A outer s H vs Q E hr h => ?_)
  · obtain ⟨a, e, m, rfl, _⟩ := h
    rfl
  · obtain ⟨a, e, m, rfl, he, hm, hm2, q⟩ := h
    obtain ⟨n, rfl⟩ : ∃ n : Nat, e = n := ⟨e.toNat, by omega⟩
    rw [Int.toNat_natCast] at q
    refine ⟨_, (pss_cons (ps_set (i := 3) sc_power.nd rfl (.inl rfl) (pe_op op_mod pe_int (pv 2)))
      (pss_cons (ps_set (i := 4) sc_power.nd rfl (.inl rfl) (pe_op op_mod (pv 0) (pv 2)))
      (pss_cons (ps_set (i := 5) sc_power.nd rfl (.inl rfl) (pv 1))
      (pss_cons (ps_while PassesOwn.never (pt_cmpR op_gt (pv 5) pe_int (nomark _)) (pss_cons (ps_if (pt_cmpR op_eq (pe_op op_mod (pv 5) pe_int) pe_int (nomark _)) (pss_one (ps_set (i := 3) sc_power.nd rfl (.inl rfl) (pe_op op_mod (pe_op op_mul (pv 3) (pv 4)) (pv 2)))) pss_nil)
      (pss_cons (ps_set (i := 4) sc_power.nd rfl (.inl rfl) (pe_op op_mod (pe_op op_mul (pv 4) (pv 4)) (pv 2)))
      (pss_one (ps_set (i := 5) sc_power.nd rfl (.inl rfl) (pe_op op_fdiv (pv 5) pe_int))))))
      (pss_one (ps_ret (pv 3))))))), ?_⟩
    walk_at "go"
    have b1 := emod_bd (a := 1) hm
    have b2 := emod_bd (a := a) hm
    refine ⟨fun k σ H' => At (∃ (r s : Int) (l : Nat), σ = [some (.int a), some (.int n), some (.int m), some (.int r), some (.int s), some (.int l)] ∧ H' = H ∧ 0 ≤ r ∧ r < m ∧ 0 ≤ s ∧ s < m ∧ r * s ^ l % m = a ^ n % m ∧ l = k),
      ⟨n, .of ⟨_, _, _, rfl, rfl, b1.1, b1.2, b2.1, b2.2, ?_, rfl⟩⟩, ?_⟩
    · rw [← mul_emod_r, pow_emod, mul_emod_r, mul_emod_l, Int.one_mul]
    rintro k σ H' hW
    obtain ⟨r, s, l, rfl, rfl, r0, r1, s0, s1, e, rfl⟩ := hW.out
    have b3 := emod_bd (a := r * s) hm
    have b4 := emod_bd (a := s * s) hm
    walk_at "go"
    refine iteD (fun h => ?_) (fun h => ?_)
    · refine ⟨_, fun _ _ h => h, ?_⟩
      walk_at "go"
      refine iteD (fun o => ?_) (fun o => ?_)
      · have o' : l % 2 = 1 := by
          have := V.int.inj o
          omega
        walk_at "go"
        exact ⟨l / 2, by omega, .of ⟨r * s % m, s * s % m, l / 2, rfl, rfl, b3.1, b3.2, b4.1, b4.2, power_odd e o', rfl⟩⟩
      · have o' : ¬ l % 2 = 1 := fun z => o (congrArg V.int (by omega))
        walk_at "go"
        exact ⟨l / 2, by omega, .of ⟨r, s * s % m, l / 2, rfl, rfl, r0, r1, b4.1, b4.2, power_even e o', rfl⟩⟩
    · walk_at "go"
      have : l = 0 := by omega
      subst this
      rw [Int.pow_zero, Int.mul_one, Int.emod_eq_of_lt r0 r1] at e
      rw [e]
      exact q
def spIsPrime : Sp := fun vs H Q _ => ∃ n : Int, vs = [.int n] ∧ n < 1073741824 ∧ ∀ b : Bool, (b = true ↔ Pr n) → Q (.bl b) H
theorem ok_is_prime {f : Addr} {fd : FuncData} (F : Fun K "is_prime" "is_prime" s_is_prime f fd) : FnOk P w K mg base CX0 1 f fd ["number"] spIsPrime := by
  refine F.ok sc_is_prime (fun vs H Q E h => ?_) (fun cdv A outer s H vs Q E hr h => ?_)
  · obtain ⟨n, rfl, _⟩ := h
    rfl
  · obtain ⟨n, rfl, hn, q⟩ := h
    refine ⟨_, (pss_cons (ps_if (pt_cmpR op_lt (pv 0) pe_int (nomark _)) (pss_one (ps_ret pe_bl)) pss_nil)
      (pss_cons (ps_set (i := 1) sc_is_prime.nd rfl (.inl rfl) pe_int)
      (pss_cons (ps_while PassesOwn.never (pt_cmpR op_le (pe_op op_mul (pv 1) (pv 1)) (pv 0) (nomark _)) (pss_cons (ps_if (pt_cmpR op_eq (pe_op op_mod (pv 0) (pv 1)) pe_int (nomark _)) (pss_one (ps_ret pe_bl)) pss_nil)
      (pss_one (ps_aug (i := 1) sc_is_prime.nd rfl (.inl rfl) (pe_ifExp (pt_cmpR op_eq (pv 1) pe_int (nomark _)) pe_int pe_int) ip_add))))
      (pss_one (ps_ret pe_bl))))), ?_⟩
    walk_at "go"
    refine iteD (fun c => ?_) (fun c => ?_)
    · walk_at "go"
      exact q _ ⟨fun z => (by cases z), fun z => absurd z.1 (by omega)⟩
    walk_at "go"
    refine ⟨fun k σ H' => At (∃ d : Int, σ = [some (.int n), some (.int d)] ∧ H' = H ∧ 2 ≤ d ∧ (d = 2 ∨ d % 2 = 1) ∧ d ≤ n + 2 ∧ (∀ e : Int, 2 ≤ e → e < d → n % e ≠ 0) ∧ (n + 2 - d).toNat = k),
      ⟨_, .of ⟨2, rfl, rfl, by omega, .inl rfl, by omega, fun e h1 h2 => by omega, rfl⟩⟩, ?_⟩
    rintro k σ H' hW
    obtain ⟨d, rfl, rfl, h2, par, dn, hd, hk⟩ := hW.out
    walk_at "go"
    refine iteD (fun h => ?_) (fun h => ?_)
    · have dle : d ≤ n := by
        have := Int.mul_le_mul_of_nonneg_right h2 (show (0 : Int) ≤ d by omega)
        omega
      refine ⟨_, fun _ _ h => h, ?_⟩
      walk_at "go"
      refine iteD (fun o => ?_) (fun o => ?_)
      · walk_at "go"
        exact q _ ⟨fun z => (by cases z), fun z => absurd (V.int.inj o) (z.2 d h2 h)⟩
      · have o' : n % d ≠ 0 := fun z => o (congrArg V.int z)
        walk_at "go"
        refine iteD (fun c2 => ?_) (fun c2 => ?_)
        · have c2' : d = 2 := V.int.inj c2
          walk_at "go"
          refine ⟨(n + 2 - (d + 1)).toNat, by omega, .of ⟨d + 1, rfl, rfl, by omega, by omega, by omega, fun e h1 h2 => ?_, rfl⟩⟩
          have : e = d := by omega
          subst this
          exact o'
        · have c2' : d ≠ 2 := fun z => c2 (congrArg V.int z)
          walk_at "go"
          refine ⟨(n + 2 - (d + 2)).toNat, by omega, .of ⟨d + 2, rfl, rfl, by omega, by omega, by omega, fun e h1 h2 => ?_, rfl⟩⟩
          by_cases e1 : e < d
          · exact hd e h1 e1
          · by_cases e2 : e = d
            · subst e2
              exact o'
            · have e3 : e % 2 = 0 := by omega
              refine fun z => hd 2 (by omega) (by omega) ?_
              have := Int.dvd_trans (Int.dvd_of_emod_eq_zero e3) (Int.dvd_of_emod_eq_zero z)
              exact Int.emod_eq_zero_of_dvd this
    · walk_at "go"
      refine q _ ⟨fun _ => ⟨by omega, fun e h1 h3 => ?_⟩, fun _ => rfl⟩
      by_cases e1 : e < d
      · exact hd e h1 e1
      · have := Int.mul_le_mul (show d ≤ e by omega) (show d ≤ e by omega) (by omega) (by omega)
        omega
end

abbrev s__law_pool : Stmt := top 25
theorem sc__law_pool : FnScope ["script", "budget"] ["script", "budget"] (defScope s__law_pool) := ⟨rfl, rfl, rfl, by decide +kernel, rfl, by decide +kernel, by decide +kernel⟩
abbrev s__law_draw : Stmt := top 26
theorem sc__law_draw : FnScope ["pool", "size", "cell", "value"] ["pool", "size"] (defScope s__law_draw) := ⟨rfl, rfl, rfl, by decide +kernel, rfl, by decide +kernel, by decide +kernel⟩
section
variable {P : Program} {w : World} {K : PySem.W.Frag} {mg : Str → Option Value} {base : Heap}
def spPool (K : PySem.W.Frag) : Sp := fun vs H Q _ => ∃ (a : Addr) (ns : List Int) (z : Int), vs = [.ref a, .int z] ∧ SqL K H a (ns.map V.int) ∧
  ∀ p c H', Same H H' → H p = none → PoolAt H' p c → Q (.ref p) H'
theorem ok_law_pool {f : Addr} {fd : FuncData} (F : Fun K "_law_pool" "_law_pool" s__law_pool f fd) (B : Blt mg) : FnOk P w K mg base CX0 1 f fd ["script", "budget"] (spPool K) := by
  refine F.ok sc__law_pool (fun vs H Q E h => ?_) (fun cdv A outer s H vs Q E hr h => ?_)
  · obtain ⟨a, ns, z, rfl, _⟩ := h
    rfl
  · obtain ⟨a, ns, z, rfl, hS, q⟩ := h
    refine ⟨_, (pss_one (ps_ret (pe_lst (pa_cons (pe_callTy (klist (K := K) rfl) (by rfl) B.list bt_list (pa_cons (pv 0) pa_nil)) (pa_cons pe_int (pa_cons pe_int (pa_cons pe_int (pa_cons pe_int (pa_cons (pv 1) pa_nil))))))))), ?_⟩
    walk_at "go"
    intro c hc
    walk_at "go"
    intro p hp
    have s1 := same_new (o := .lst (ns.map V.int)) hc
    refine q p c _ (s1.trans (same_new hp)) (s1.free hp) ⟨ns, 0, 0, 1, 0, z, upd_same, ?_, by omega, by omega, by omega⟩
    rw [upd_ne (ne_of_none upd_same hp), upd_same]
def spDraw : Sp := fun vs H Q _ => ∃ (p c : Addr) (n : Int), vs = [.ref p, .int n] ∧ PoolAt H p c ∧ 0 < n ∧ n < 1073741824 ∧
  ∀ v H', 0 ≤ v → v < n → PoolAt H' p c → Keep H H' → Q (.int v) H'
set_option maxHeartbeats 1000000 in
theorem ok_law_draw {f : Addr} {fd : FuncData} (F : Fun K "_law_draw" "_law_draw" s__law_draw f fd) (B : Blt mg) : FnOk P w K mg base CX0 1 f fd ["pool", "size"] spDraw := by
  refine F.ok sc__law_draw (fun vs H Q E h => ?_) (fun cdv A outer s H vs Q E hr h => ?_)
  · obtain ⟨p, c, n, rfl, _⟩ := h
    rfl
  · obtain ⟨p, c, n, rfl, ⟨ns, i, m, t, b, z, h1, h2, i0, t0, t1⟩, n0, n1, q⟩ := h
    have hu := hu_of hr
    refine ⟨_, (C8.pss_cut (ps_if (PW.pt (pw_and (pt_cmpR op_le (pe_ix (kixl (K := K) rfl) (pv 0) pe_int (fun _ _ => rfl)) pe_int (nomark _)) (pw_and (pt_cmpR op_le (pe_ix (kixl (K := K) rfl) (pv 0) pe_int (fun _ _ => rfl)) pe_int (nomark _)) (pw_and1 (pt_cmpR op_lt (pe_ix (kixl (K := K) rfl) (pv 0) pe_int (fun _ _ => rfl)) (pe_callB (klen (K := K) rfl) (by rfl) B.len bt_len (pa_cons (pe_ix (kixl (K := K) rfl) (pv 0) pe_int (fun _ _ => rfl)) pa_nil)) (nomark _)))))) (pss_cons (ps_set (i := 2) sc__law_draw.nd rfl (.inl rfl) (pe_ix (kixl (K := K) rfl) (pe_ix (kixl (K := K) rfl) (pv 0) pe_int (fun _ _ => rfl)) (pe_ix (kixl (K := K) rfl) (pv 0) pe_int (fun _ _ => rfl)) (fun _ _ => rfl)))
      (pss_cons (ps_asg (pe_op op_add (pe_ix (kixl (K := K) rfl) (pv 0) pe_int (fun _ _ => rfl)) pe_int) (pg_sub (pv 0) pe_int set_list))
      (pss_cons (ps_asg (pe_op op_mod (pe_callTy call_int1 (by rfl) B.int bt_int (pa_cons (pe_op op_add (pe_op op_mul (pe_ix (kixl (K := K) rfl) (pv 0) pe_int (fun _ _ => rfl)) pe_int) (pv 2)) pa_nil)) pe_int) (pg_sub (pv 0) pe_int set_list))
      (pss_cons (ps_asg pe_int (pg_sub (pv 0) pe_int set_list))
      (pss_one (ps_if (pt_cmpR op_ge (pv 2) (pe_op op_pow pe_int pe_int) (nomark _)) (pss_one (ps_asg (pv 2) (pg_sub (pv 0) pe_int set_list))) pss_nil)))))) pss_nil)
      (pss_cons (ps_if (pt_cmpR op_gt (pe_ix (kixl (K := K) rfl) (pv 0) pe_int (fun _ _ => rfl)) pe_int (nomark _)) (pss_cons (ps_set (i := 3) sc__law_draw.nd rfl (.inl rfl) (pe_op op_mod (pe_callTy call_int1 (by rfl) B.int bt_int (pa_cons (pe_ix (kixl (K := K) rfl) (pv 0) pe_int (fun _ _ => rfl)) pa_nil)) (pv 1)))
      (pss_cons (ps_asg (pe_op op_fdiv (pe_ix (kixl (K := K) rfl) (pv 0) pe_int (fun _ _ => rfl)) (pv 1)) (pg_sub (pv 0) pe_int set_list))
      (pss_cons (ps_asg pe_int (pg_sub (pv 0) pe_int set_list))
      (pss_one (ps_ret (pv 3)))))) pss_nil)
      (pss_cons (ps_asg (pe_op op_sub (pe_ix (kixl (K := K) rfl) (pv 0) pe_int (fun _ _ => rfl)) pe_int) (pg_sub (pv 0) pe_int set_list))
      (pss_cons (ps_asg (pe_op op_mod (pe_callTy call_int1 (by rfl) B.int bt_int (pa_cons (pe_op op_add (pe_op op_mul (pe_ix (kixl (K := K) rfl) (pv 0) pe_int (fun _ _ => rfl)) pe_int) pe_int) pa_nil)) pe_int) (pg_sub (pv 0) pe_int set_list))
      (pss_one (ps_ret (pe_op op_mod (pe_op op_mod (pe_callTy call_int1 (by rfl) B.int bt_int (pa_cons (pe_op op_add (pe_op op_mul (pe_ix (kixl (K := K) rfl) (pv 0) pe_int (fun _ _ => rfl)) pe_int) pe_int) pa_nil)) pe_int) (pv 1)))))))), ?_⟩
    have ncp : c ≠ p := fun e => by
      rw [e, h1] at h2
      cases ns with
      | nil => cases h2
      | cons y ys => cases h2
    refine ⟨fun σ' H' => At (∃ (x : Option V) (i m t b : Int), σ' = [some (.ref p), some (.int n), x, none] ∧ H' p = some (.lst [.ref c, .int i, .int m, .int t, .int b, .int z]) ∧ H' c = some (.lst (ns.map V.int)) ∧ 0 ≤ i ∧ 0 ≤ t ∧ t < 2147483647 ∧ Keep H H'), ?_, ?_⟩
    · have out : ∃ (x : Option V) (i m t b : Int), (L2.start ["pool", "size", "cell", "value"] [.ref p, .int n]) = [some (.ref p), some (.int n), x, none] ∧ H p = some (.lst [.ref c, .int i, .int m, .int t, .int b, .int z]) ∧ H c = some (.lst (ns.map V.int)) ∧ 0 ≤ i ∧ 0 ≤ t ∧ t < 2147483647 ∧ Keep H H :=
        ⟨none, i, m, t, b, rfl, h1, h2, i0, t0, t1, Keep.refl H⟩
      walk_at "go"
      refine iteD (fun c1 => ?_) (fun c1 => ?_)
      · walk_at "go"
        refine iteD (fun c2 => ?_) (fun c2 => ?_)
        · walk_at "go"
          refine iteD (fun c3 => ?_) (fun c3 => ?_)
          · have c3' : i < (ns.length : Int) := by
              rw [List.length_map] at c3
              exact c3
            obtain ⟨y, ha⟩ : ∃ y, atI (ns.map V.int) i = some (.int y) := by
              have hlt : i.toNat < ns.length := by omega
              refine ⟨ns[i.toNat], at_of (j := i.toNat) (by omega) ?_⟩
              rw [List.getElem?_map, List.getElem?_eq_getElem hlt]
              rfl
            walk_at "go"
            refine ⟨_, _, _, _, rfl, rfl, SqL.of h2, ha, ?_⟩
            walk_at "go"
            have fin : ∀ (mm : Int) (H' : Hp) (hp : H' p = some (.lst [.ref c, .int (i + 1), .int mm, .int ((t * 31 + y) % 2147483647), .int 7, .int z])) (hc : H' c = some (.lst (ns.map V.int))) (hk : Keep H H'),
                ∃ (x : Option V) (i m t b : Int), ((L2.start ["pool", "size", "cell", "value"] [.ref p, .int n]).set 2 (some (V.int y))) = [some (.ref p), some (.int n), x, none] ∧ H' p = some (.lst [.ref c, .int i, .int m, .int t, .int b, .int z]) ∧ H' c = some (.lst (ns.map V.int)) ∧ 0 ≤ i ∧ 0 ≤ t ∧ t < 2147483647 ∧ Keep H H' :=
              fun mm H' hp hc hk => ⟨_, i + 1, mm, _, 7, rfl, hp, hc, by omega, by omega, by omega, hk⟩
            refine iteD (fun c4 => ?_) (fun c4 => ?_)
            · walk_at "go"
              exact .of (fin _ _ upd_same (by rw [upd_ne ncp, upd_ne ncp, upd_ne ncp, upd_ne ncp]; exact h2) (keep_pool (keep_pool (keep_pool (keep_pool (Keep.refl H) h1 rfl) h1 rfl) h1 rfl) h1 rfl))
            · walk_at "go"
              exact .of (fin _ _ upd_same (by rw [upd_ne ncp, upd_ne ncp, upd_ne ncp]; exact h2) (keep_pool (keep_pool (keep_pool (Keep.refl H) h1 rfl) h1 rfl) h1 rfl))
          · walk_at "go"
            exact .of out
        · walk_at "go"
          exact .of out
      · walk_at "go"
        exact .of out
    · intro σ' H' hW
      obtain ⟨x, i, m, t, b, rfl, h1', h2', i0, t0, t1, hk⟩ := hW.out
      have fin : ∀ (v : Int) (mm tt bb : Int) (H2 : Hp), 0 ≤ v → v < n → H2 p = some (.lst [.ref c, .int i, .int mm, .int tt, .int bb, .int z]) → H2 c = some (.lst (ns.map V.int)) → 0 ≤ tt → tt < 2147483647 → Keep H H2 → Q (.int v) H2 :=
        fun v mm tt bb H2 v0 v1 a1 a2 a3 a4 a5 => q v H2 v0 v1 ⟨ns, i, mm, tt, bb, z, a1, a2, i0, a3, a4⟩ a5
      walk_at "go"
      refine iteD (fun c1 => ?_) (fun c1 => ?_)
      · walk_at "go"
        exact fin _ _ _ _ _ (Int.emod_nonneg _ (by omega)) (Int.emod_lt_of_pos _ n0) upd_same (by rw [upd_ne ncp, upd_ne ncp]; exact h2') t0 t1 (keep_pool (keep_pool hk h1 rfl) h1 rfl)
      · walk_at "go"
        exact fin _ _ _ _ _ (Int.emod_nonneg _ (by omega)) (Int.emod_lt_of_pos _ n0) upd_same (by rw [upd_ne ncp, upd_ne ncp]; exact h2') (by omega) (by omega) (keep_pool (keep_pool hk h1 rfl) h1 rfl)
end

/-! ### _law_same -/
/-- data that _law_same compares, of so many levels -/
def okD : Nat → PyData → Prop
  | _, .none => True
  | _, .bool _ => True
  | _, .int _ => True
  | _, .str _ => True
  | n + 1, .list ds => ds.length ≤ 1000000 ∧ ∀ d ∈ ds, okD n d
  | n + 1, .tuple ds => ds.length ≤ 1000000 ∧ ∀ d ∈ ds, okD n d
  | _, _ => False
def spSame : Nat → Sp
  | 0 => fun _ _ _ _ => False
  | n + 1 => fun vs H Q _ => ∃ (va vd : V) (a d : PyData), vs = [va, vd] ∧ Rp H va a ∧ Rp H vd d ∧ okD n d ∧ ∀ b : Bool, (b = true ↔ a = d) → Q (.bl b) H
theorem same_bl {Q : Bool → Prop} {p : Prop} (h : ∀ b : Bool, (b = true ↔ p) → Q b) (x : Bool) (t : x = true → p) (u : p → x = true) : Q x := h x ⟨t, u⟩
abbrev s__law_same : Stmt := top 27
theorem sc__law_same : FnScope ["actual", "due", "k"] ["actual", "due"] (defScope s__law_same) := ⟨rfl, rfl, rfl, by decide +kernel, rfl, by decide +kernel, by decide +kernel⟩
section
variable {P : Program} {w : World} {K : PySem.W.Frag} {mg : Str → Option Value} {base : Heap}
set_option maxHeartbeats 400000 in
theorem ok_law_same {f : Addr} {fd : FuncData} (F : Fun K "_law_same" "_law_same" s__law_same f fd) (B : Blt mg) (mf : mg "_law_same" = some (.ref f)) (bf : Binds K fd ["actual", "due"] []) :
    ∀ n, FnOk P w K mg base CX0 n f fd ["actual", "due"] (spSame n)
  | 0 => ⟨fun _ _ _ _ h => h.elim, fun _ _ _ _ _ _ _ _ _ _ _ _ _ h => h.elim⟩
  | n + 1 => by
    have C__law_same : C8.Cal P w K mg base n "_law_same" (spSame n) [] := ⟨⟨f, fd, _, [], ok_law_same F B mf bf n, mf, F.kp, bf, .nil⟩⟩
    refine F.ok sc__law_same (fun vs H Q E h => ?_) (fun cdv A outer s H vs Q E hr h => ?_)
    · obtain ⟨va, vd, a, d, rfl, _⟩ := h
      rfl
    · obtain ⟨va, vd, a, d, rfl, ha, hd, ok, q⟩ := h
      refine ⟨_, (pss_cons (ps_if (PW.pt (pw_or (pt_val (pe_callB (kisi (K := K) rfl) (by rfl) B.isinstance bt_isinstance (pa_cons (pv 1) (pa_cons (pe_bltn (v := .ty "tuple") (u := .type "tuple") (by rfl) B.tuple bt_tuple rfl) pa_nil)))) (pw_or1 (pt_val (pe_callB (kisi (K := K) rfl) (by rfl) B.isinstance bt_isinstance (pa_cons (pv 1) (pa_cons (pe_bltn (v := .ty "list") (u := .type "list") (by rfl) B.list bt_list rfl) pa_nil))))))) (pss_cons (ps_if (PW.pt (pw_or (pt_cmpR op_ne (pe_callB (kisi (K := K) rfl) (by rfl) B.isinstance bt_isinstance (pa_cons (pv 1) (pa_cons (pe_bltn (v := .ty "tuple") (u := .type "tuple") (by rfl) B.tuple bt_tuple rfl) pa_nil))) (pe_callB (kisi (K := K) rfl) (by rfl) B.isinstance bt_isinstance (pa_cons (pv 0) (pa_cons (pe_bltn (v := .ty "tuple") (u := .type "tuple") (by rfl) B.tuple bt_tuple rfl) pa_nil))) (nomark _)) (pw_or1 (pt_cmpR op_ne (pe_callB (kisi (K := K) rfl) (by rfl) B.isinstance bt_isinstance (pa_cons (pv 1) (pa_cons (pe_bltn (v := .ty "list") (u := .type "list") (by rfl) B.list bt_list rfl) pa_nil))) (pe_callB (kisi (K := K) rfl) (by rfl) B.isinstance bt_isinstance (pa_cons (pv 0) (pa_cons (pe_bltn (v := .ty "list") (u := .type "list") (by rfl) B.list bt_list rfl) pa_nil))) (nomark _))))) (pss_one (ps_ret pe_bl)) pss_nil)
      (pss_cons (ps_if (pt_cmpR op_ne (pe_callB (klen (K := K) rfl) (by rfl) B.len bt_len (pa_cons (pv 0) pa_nil)) (pe_callB (klen (K := K) rfl) (by rfl) B.len bt_len (pa_cons (pv 1) pa_nil)) (nomark _)) (pss_one (ps_ret pe_bl)) pss_nil)
      (pss_cons (ps_for PassesOwn.never rfl (pi_range1 rfl B.range (pa_cons (pe_callB (klen (K := K) rfl) (by rfl) B.len bt_len (pa_cons (pv 1) pa_nil)) pa_nil)) (pg_name (i := 2) sc__law_same.nd rfl (.inl rfl))
      (pss_one (ps_if (pt_not (pt_val (C8.pe_c C__law_same hr (by omega) rfl (pa_cons (pe_ix (kixs (K := K) rfl) (pv 0) (pv 2) (fun _ _ => rfl)) (pa_cons (pe_ix (kixs (K := K) rfl) (pv 1) (pv 2) (fun _ _ => rfl)) pa_nil))))) (pss_one (ps_ret pe_bl)) pss_nil)))
      (pss_one (ps_ret pe_bl))))) pss_nil)
      (pss_cons (ps_if (PW.pt (pw_or (pt_cmpR op_isN (pv 1) pe_non (nomark _)) (pw_or1 (pt_val (pe_callB (kisi (K := K) rfl) (by rfl) B.isinstance bt_isinstance (pa_cons (pv 1) (pa_cons (pe_bltn (v := .ty "bool") (u := .type "bool") (by rfl) B.bool bt_bool rfl) pa_nil))))))) (pss_one (ps_ret (pe_and (pe_cmpR op_eq (pe_cmpR op_isN (pv 0) pe_non (nomark _)) (pe_cmpR op_isN (pv 1) pe_non (nomark _)) (nomark _)) (pe_and (pe_or (pe_cmpR op_isN (pv 1) pe_non (nomark _)) (pe_one (pe_callB (kisi (K := K) rfl) (by rfl) B.isinstance bt_isinstance (pa_cons (pv 0) (pa_cons (pe_bltn (v := .ty "bool") (u := .type "bool") (by rfl) B.bool bt_bool rfl) pa_nil))))) (pe_one (pe_cmpR op_eq (pv 0) (pv 1) (nomark _))))))) pss_nil)
      (pss_cons (ps_if (pt_val (pe_callB (kisi (K := K) rfl) (by rfl) B.isinstance bt_isinstance (pa_cons (pv 1) (pa_cons (pe_bltn (v := .ty "int") (u := .type "int") (by rfl) B.int bt_int rfl) pa_nil)))) (pss_one (ps_ret (pe_and (pe_callB (kisi (K := K) rfl) (by rfl) B.isinstance bt_isinstance (pa_cons (pv 0) (pa_cons (pe_bltn (v := .ty "int") (u := .type "int") (by rfl) B.int bt_int rfl) pa_nil))) (pe_and (pe_not (pe_callB (kisi (K := K) rfl) (by rfl) B.isinstance bt_isinstance (pa_cons (pv 0) (pa_cons (pe_bltn (v := .ty "bool") (u := .type "bool") (by rfl) B.bool bt_bool rfl) pa_nil)))) (pe_one (pe_cmpR op_eq (pv 0) (pv 1) (nomark _))))))) pss_nil)
      (pss_one (ps_ret (pe_and (pe_callB (kisi (K := K) rfl) (by rfl) B.isinstance bt_isinstance (pa_cons (pv 0) (pa_cons (pe_bltn (v := .ty "str") (u := .type "str") (by rfl) B.str bt_str rfl) pa_nil))) (pe_one (pe_cmpR op_eq (pv 0) (pv 1) (nomark _))))))))), ?_⟩
      cases hd with
      | non => walk_at "go"; cases ha <;> (walk_at "go"; exact q _ (by simp))
      | bl b => walk_at "go"; cases ha <;> (walk_at "go"; exact q _ (by simp))
      | int b => walk_at "go"; cases ha <;> (walk_at "go"; exact q _ (by simp))
      | str b => walk_at "go"; cases ha <;> (walk_at "go"; exact q _ (by simp))
      | @lst a2 ys es h p r =>
        have hn : 0 < n := by
          cases n with
          | zero => exact ok.elim
          | succ n => exact Nat.succ_pos n
        obtain ⟨n, rfl⟩ : ∃ m, n = m + 1 := ⟨n - 1, by omega⟩
        walk_at "go"
        cases ha with
        | @lst a1 xs ds h1 p1 r1 =>
          walk_at "go"
          refine iteN (fun e => ?_) (fun e => ?_)
          · walk_at "go"
            refine q _ ⟨fun z => (by cases z), fun z => absurd ?_ e⟩
            cases z
            rw [r1.length, r.length]
          · have el : ds.length = es.length := by
              have e' := V.int.inj e
              rw [r1.length, r.length] at e'
              omega
            have hl : es.length ≤ 1000000 := ok.1
            have hly : ys.length = es.length := r.length
            walk_at "go"
            refine for_range (fun i σ' H' => At (∃ y, σ' = [some (.ref a1), some (.ref a2), y] ∧ H' = H ∧ ∀ j < i, ds[j]? = es[j]?)) (.of ⟨none, rfl, rfl, fun j hj => absurd hj (Nat.not_lt_zero _)⟩) ?_ ?_
            · rintro i σ' H' hi hW
              obtain ⟨y, rfl, rfl, hj⟩ := hW.out
              have hie : i < es.length := by omega
              have hid : i < ds.length := by omega
              obtain ⟨vx, g1, k1⟩ := r1.get (List.getElem?_eq_getElem hid)
              obtain ⟨vy, g2, k2⟩ := r.get (List.getElem?_eq_getElem hie)
              walk_at "go"
              refine Or.inl ⟨_, _, _, _, rfl, rfl, SqL.of h1, at_of (Int.zero_add _) g1, ?_⟩
              walk_at "go"
              refine Or.inl ⟨_, _, _, _, rfl, rfl, SqL.of h, at_of (Int.zero_add _) g2, ?_⟩
              refine ⟨_, _, _, _, rfl, k1, k2, ok.2 _ (List.getElem_mem hie), fun b hb => ?_⟩
              walk_at "go"
              refine iteBn (fun c => ?_) (fun c => ?_)
              · walk_at "go"
                refine q _ ⟨fun z => (by cases z), fun z => absurd (hb.mpr ?_) (by rw [c]; decide)⟩
                cases z
                rfl
              · walk_at "go"
                refine .of ⟨_, rfl, rfl, fun j h => ?_⟩
                by_cases hji : j < i
                · exact hj j hji
                · have : j = i := by omega
                  subst this
                  rw [List.getElem?_eq_getElem hid, List.getElem?_eq_getElem hie, hb.mp c]
            · rintro σ' H' hW
              obtain ⟨y, rfl, rfl, hj⟩ := hW.out
              walk_at "go"
              refine q _ ⟨fun _ => ?_, fun _ => rfl⟩
              congr 1
              refine List.ext_getElem? fun j => ?_
              by_cases h : j < es.length
              · exact hj j (by omega)
              · rw [List.getElem?_eq_none (by omega), List.getElem?_eq_none (by omega)]
        | non => walk_at "go"; exact q _ (by simp)
        | bl b => walk_at "go"; exact q _ (by simp)
        | int b => walk_at "go"; exact q _ (by simp)
        | str b => walk_at "go"; exact q _ (by simp)
        | tup h1 r1 => walk_at "go"; exact q _ (by simp)
      | @tup a2 ys es h r =>
        have hn : 0 < n := by
          cases n with
          | zero => exact ok.elim
          | succ n => exact Nat.succ_pos n
        obtain ⟨n, rfl⟩ : ∃ m, n = m + 1 := ⟨n - 1, by omega⟩
        walk_at "go"
        cases ha with
        | @tup a1 xs ds h1 r1 =>
          walk_at "go"
          refine iteN (fun e => ?_) (fun e => ?_)
          · walk_at "go"
            refine q _ ⟨fun z => (by cases z), fun z => absurd ?_ e⟩
            cases z
            rw [r1.length, r.length]
          · have el : ds.length = es.length := by
              have e' := V.int.inj e
              rw [r1.length, r.length] at e'
              omega
            have hl : es.length ≤ 1000000 := ok.1
            have hly : ys.length = es.length := r.length
            walk_at "go"
            refine for_range (fun i σ' H' => At (∃ y, σ' = [some (.ref a1), some (.ref a2), y] ∧ H' = H ∧ ∀ j < i, ds[j]? = es[j]?)) (.of ⟨none, rfl, rfl, fun j hj => absurd hj (Nat.not_lt_zero _)⟩) ?_ ?_
            · rintro i σ' H' hi hW
              obtain ⟨y, rfl, rfl, hj⟩ := hW.out
              have hie : i < es.length := by omega
              have hid : i < ds.length := by omega
              obtain ⟨vx, g1, k1⟩ := r1.get (List.getElem?_eq_getElem hid)
              obtain ⟨vy, g2, k2⟩ := r.get (List.getElem?_eq_getElem hie)
              walk_at "go"
              refine Or.inr (Or.inl ⟨_, _, _, _, rfl, rfl, SqT.of h1, at_of (Int.zero_add _) g1, ?_⟩)
              walk_at "go"
              refine Or.inr (Or.inl ⟨_, _, _, _, rfl, rfl, SqT.of h, at_of (Int.zero_add _) g2, ?_⟩)
              refine ⟨_, _, _, _, rfl, k1, k2, ok.2 _ (List.getElem_mem hie), fun b hb => ?_⟩
              walk_at "go"
              refine iteBn (fun c => ?_) (fun c => ?_)
              · walk_at "go"
                refine q _ ⟨fun z => (by cases z), fun z => absurd (hb.mpr ?_) (by rw [c]; decide)⟩
                cases z
                rfl
              · walk_at "go"
                refine .of ⟨_, rfl, rfl, fun j h => ?_⟩
                by_cases hji : j < i
                · exact hj j hji
                · have : j = i := by omega
                  subst this
                  rw [List.getElem?_eq_getElem hid, List.getElem?_eq_getElem hie, hb.mp c]
            · rintro σ' H' hW
              obtain ⟨y, rfl, rfl, hj⟩ := hW.out
              walk_at "go"
              refine q _ ⟨fun _ => ?_, fun _ => rfl⟩
              congr 1
              refine List.ext_getElem? fun j => ?_
              by_cases h : j < es.length
              · exact hj j (by omega)
              · rw [List.getElem?_eq_none (by omega), List.getElem?_eq_none (by omega)]
        | non => walk_at "go"; exact q _ (by simp)
        | bl b => walk_at "go"; exact q _ (by simp)
        | int b => walk_at "go"; exact q _ (by simp)
        | str b => walk_at "go"; exact q _ (by simp)
        | lst h1 p1 r1 => walk_at "go"; exact q _ (by simp)
end

/-! ### groups -/
abbrev s_Group___init__ : Stmt := inClass (top 17) 0
theorem sc_Group___init__ : FnScope ["self", "p", "q", "bases"] ["self", "p", "q", "bases"] (defScope s_Group___init__) := ⟨rfl, rfl, rfl, by decide +kernel, rfl, by decide +kernel, by decide +kernel⟩
abbrev s_Group_raised : Stmt := inClass (top 17) 3
theorem sc_Group_raised : FnScope ["self", "element", "exponent"] ["self", "element", "exponent"] (defScope s_Group_raised) := ⟨rfl, rfl, rfl, by decide +kernel, rfl, by decide +kernel, by decide +kernel⟩
abbrev s_Group_product : Stmt := inClass (top 17) 4
theorem sc_Group_product : FnScope ["self", "pairs", "result", "element", "exponent"] ["self", "pairs"] (defScope s_Group_product) := ⟨rfl, rfl, rfl, by decide +kernel, rfl, by decide +kernel, by decide +kernel⟩
abbrev s__is_root : Stmt := top 18
theorem sc__is_root : FnScope ["p", "q", "number"] ["p", "q", "number"] (defScope s__is_root) := ⟨rfl, rfl, rfl, by decide +kernel, rfl, by decide +kernel, by decide +kernel⟩
abbrev s__check_primes : Stmt := top 19
theorem sc__check_primes : FnScope ["p", "q"] ["p", "q"] (defScope s__check_primes) := ⟨rfl, rfl, rfl, by decide +kernel, rfl, by decide +kernel, by decide +kernel⟩
abbrev s__check_bases : Stmt := top 20
theorem sc__check_bases : FnScope ["p", "q", "bases", "index", "base"] ["p", "q", "bases"] (defScope s__check_bases) := ⟨rfl, rfl, rfl, by decide +kernel, rfl, by decide +kernel, by decide +kernel⟩
/-- the attributes of a Group, in the order in which __init__ stores them -/
def gF (p q : Int) (t : Addr) : List (Str × V) := putF "bases" (.ref t) (putF "q" (.int q) (putF "p" (.int p) []))
theorem gF_p {p q : Int} {t : Addr} : (gF p q t).lookup ("p" : Str) = some (.int p) := by
  unfold gF
  rw [lookup_putF, if_neg (by decide +kernel), lookup_putF, if_neg (by decide +kernel), lookup_putF, if_pos rfl]
theorem gF_q {p q : Int} {t : Addr} : (gF p q t).lookup ("q" : Str) = some (.int q) := by
  unfold gF
  rw [lookup_putF, if_neg (by decide +kernel), lookup_putF, if_pos rfl]
theorem gF_b {p q : Int} {t : Addr} : (gF p q t).lookup ("bases" : Str) = some (.ref t) := by
  unfold gF
  rw [lookup_putF, if_pos rfl]
theorem gF_no {p q : Int} {t : Addr} {m : Str} (h1 : ¬ m = "p") (h2 : ¬ m = "q") (h3 : ¬ m = "bases") : (gF p q t).lookup m = none := by
  unfold gF
  rw [lookup_putF, if_neg h3, lookup_putF, if_neg h2, lookup_putF, if_neg h1]
  rfl
theorem gF_raised {p q : Int} {t : Addr} : (gF p q t).lookup ("raised" : Str) = none := gF_no (by decide +kernel) (by decide +kernel) (by decide +kernel)
theorem gF_product {p q : Int} {t : Addr} : (gF p q t).lookup ("product" : Str) = none := gF_no (by decide +kernel) (by decide +kernel) (by decide +kernel)
theorem gF_is_element {p q : Int} {t : Addr} : (gF p q t).lookup ("is_element" : Str) = none := gF_no (by decide +kernel) (by decide +kernel) (by decide +kernel)
theorem gF_log {p q : Int} {t : Addr} : (gF p q t).lookup ("log" : Str) = none := gF_no (by decide +kernel) (by decide +kernel) (by decide +kernel)
structure GTxt (K : PySem.W.Frag) (C : Addr) : Prop where
  cl : Cls K C
  nP : NoAttr K C "p"
  nQ : NoAttr K C "q"
  nB : NoAttr K C "bases"
structure Glb (mg : Str → Option Value) : Prop where
  SMALLEST_P : ∃ t, mg "SMALLEST_P" = some (.int 3 t)
  LARGEST_P : ∃ t, mg "LARGEST_P" = some (.int 1000000 t)
  FEWEST_BASES : ∃ t, mg "FEWEST_BASES" = some (.int 2 t)
  MOST_BASES : ∃ t, mg "MOST_BASES" = some (.int 12 t)
/-- at g: a Group -/
def GrpAt (C : Addr) (H : Hp) (g : Addr) (p q : Int) (bs : List Int) : Prop := ∃ dx t, H g = some (.ins C dx (gF p q t)) ∧ H t = some (.tup (bs.map V.int))
theorem GrpAt.keep {C : Addr} {H H' : Hp} {g : Addr} {p q : Int} {bs : List Int} (k : Keep H H') (h : GrpAt C H g p q bs) : GrpAt C H' g p q bs := by
  obtain ⟨dx, t, h1, h2⟩ := h
  exact ⟨dx, t, k _ _ h1 rfl, k _ _ h2 rfl⟩
local macro_rules | `(tactic| walk_at "s") => `(tactic| first
  | refine ⟨_, _, _, _, _, (by walk_at "eq"), (by walk_at "hp"), (by assumption), (by assumption), (by with_reducible first | exact gF_p | exact gF_q | exact gF_b), ?_⟩
  | refine ⟨_, _, _, (by walk_at "eq"), (by walk_at "hp"), (by with_reducible first | exact gF_raised | exact gF_product | exact gF_is_element | exact gF_log), ?_⟩)

section
variable {P : Program} {w : World} {K : PySem.W.Frag} {mg : Str → Option Value} {base : Heap}
def rz (p q e k : Int) : Int := e ^ (k % q).toNat % p
def spRaised (C : Addr) : Sp := fun vs H Q _ => ∃ (g : Addr) (e k p q : Int) (bs : List Int), vs = [.ref g, .int e, .int k] ∧ GrpAt C H g p q bs ∧ 0 < q ∧ 0 < p ∧ p < 2147483648 ∧ Q (.int (rz p q e k)) H
theorem ok_raised {f C : Addr} {fd : FuncData} (F : Fun K "raised" "Group.raised" s_Group_raised f fd) (T : GTxt K C) (C_power : C8.Cal P w K mg base 1 "power" spPower []) : FnOk P w K mg base CX0 2 f fd ["self", "element", "exponent"] (spRaised C) := by
  refine F.ok sc_Group_raised (fun vs H Q E h => ?_) (fun cdv A outer s H vs Q E hr h => ?_)
  · obtain ⟨g, e, k, p, q, bs, rfl, _⟩ := h
    rfl
  · obtain ⟨g, e, k, p, q, bs, rfl, ⟨dx, t, h1, h2⟩, q0, p0, p1, z⟩ := h
    obtain ⟨cl, nP, nQ, nB⟩ := T
    refine ⟨_, (pss_one (ps_ret (C8.pe_c C_power hr (by omega) rfl (pa_cons (pv 1) (pa_cons (pe_op op_mod (pv 2) (kfld (K := K) rfl (pv 0))) (pa_cons (kfld (K := K) rfl (pv 0)) pa_nil)))))), ?_⟩
    have := emod_bd (a := k) q0
    walk_at "go"
    exact z
def prF (p q : Int) : Int → List (Int × Int) → Int
  | a, [] => a
  | a, (e, k) :: r => prF p q (a * rz p q e k % p) r
def prZ (p q : Int) (l : List (Int × Int)) : Int := prF p q 1 l
theorem prF_snoc (p q : Int) : ∀ (l : List (Int × Int)) (a e k : Int), prF p q a (l ++ [(e, k)]) = prF p q a l * rz p q e k % p
  | [], _, _, _ => rfl
  | (e', k') :: r, a, e, k => prF_snoc p q r _ e k
theorem prF_bd {p q : Int} (h : 1 < p) : ∀ (l : List (Int × Int)) (a : Int), 0 ≤ a → a < p → 0 ≤ prF p q a l ∧ prF p q a l < p
  | [], a, h0, h1 => ⟨h0, h1⟩
  | (e, k) :: r, a, h0, h1 => by
    have := emod_bd (a := a * rz p q e k) (m := p) (by omega)
    exact prF_bd h r _ this.1 this.2
def prD (x : Int × Int) : PyData := .tuple [.int x.1, .int x.2]
theorem pairs_at {H : Hp} {xs : List V} {prs : List (Int × Int)} {i : Nat} {x : V} (r : RpAll H xs (prs.map prD)) (h : xs[i]? = some x) : ∃ (pr : Int × Int) (t : Addr), prs[i]? = some pr ∧ x = .ref t ∧ H t = some (.tup [.int pr.1, .int pr.2]) := by
  obtain ⟨d, hd, rd⟩ := r.getV h
  rw [List.getElem?_map] at hd
  cases e : prs[i]? with
  | none =>
    rw [e] at hd
    cases hd
  | some pr =>
    rw [e] at hd
    cases hd
    have rd' : Rp H x (.tuple [.int pr.1, .int pr.2]) := rd
    cases rd' with
    | @tup ta ys _ ht ra =>
      cases ra with
      | cons ra1 ra2 =>
        cases ra2 with
        | cons rb1 rb2 =>
          cases rb2
          cases ra1
          cases rb1
          exact ⟨pr, ta, rfl, rfl, ht⟩
def spProduct (C : Addr) : Sp := fun vs H Q _ => ∃ (g l : Addr) (p q : Int) (bs : List Int) (prs : List (Int × Int)), vs = [.ref g, .ref l] ∧ GrpAt C H g p q bs ∧ 0 < q ∧ 1 < p ∧ p < 2147483648 ∧ Rp H (.ref l) (.list (prs.map prD)) ∧ Q (.int (prZ p q prs)) H
theorem ok_product {f C : Addr} {fd : FuncData} (F : Fun K "product" "Group.product" s_Group_product f fd) (T : GTxt K C) (M_raised : C8.Met P w K mg base 2 C "raised" (spRaised C) []) : FnOk P w K mg base CX0 3 f fd ["self", "pairs"] (spProduct C) := by
  refine F.ok sc_Group_product (fun vs H Q E h => ?_) (fun cdv A outer s H vs Q E hr h => ?_)
  · obtain ⟨g, l, p, q, bs, prs, rfl, _⟩ := h
    rfl
  · obtain ⟨g, l, p, q, bs, prs, rfl, G, q0, p1, p2, hl, z⟩ := h
    obtain ⟨dx, t, h1, h2⟩ := id G
    obtain ⟨cl, nP, nQ, nB⟩ := T
    cases hl with
    | @lst _ xs _ hx np hr2 =>
      have lx : xs.length = prs.length := by rw [hr2.length, List.length_map]
      refine ⟨_, (pss_cons (ps_set (i := 2) sc_Group_product.nd rfl (.inl rfl) pe_int)
      (pss_cons (ps_for PassesOwn.never rfl (kpil (K := K) rfl (pv 1)) (kgtup (K := K) (n := 2) rfl rfl (pgs_cons (pg_name (i := 3) sc_Group_product.nd rfl (.inl rfl)) (pgs_cons (pg_name (i := 4) sc_Group_product.nd rfl (.inl rfl)) pgs_nil)))
      (pss_one (ps_set (i := 2) sc_Group_product.nd rfl (.inl rfl) (pe_op op_mod (pe_op op_mul (pv 2) (C8.pe_mt M_raised hr (by omega) (pv 0) (pa_cons (pv 3) (pa_cons (pv 4) pa_nil)))) (kfld (K := K) rfl (pv 0))))))
      (pss_one (ps_ret (pv 2))))), ?_⟩
      walk_at "go"
      refine for_list (xs := xs) (fun i σ' H' => At (∃ y3 y4, σ' = [some (.ref g), some (.ref l), some (.int (prF p q 1 (prs.take i))), y3, y4] ∧ H' = H)) (.of ⟨_, _, rfl, rfl⟩) (fun i σ' H' _ hW => ?_) ?_ ?_
      · obtain ⟨_, _, _, rfl⟩ := hW.out
        exact SqL.of hx
      · intro i x σ' H' hi hW
        obtain ⟨y3, y4, rfl, rfl⟩ := hW.out
        have bd := prF_bd (q := q) p1 (prs.take i) 1 (by omega) p1
        obtain ⟨pr, ta, e1, rfl, ht⟩ := pairs_at hr2 hi
        refine ⟨ta, _, rfl, SqT.of ht, rfl, ?_⟩
        walk_at "go"
        refine .of ⟨some (V.int pr.1), some (V.int pr.2), ?_, rfl⟩
        rw [List.take_add_one, e1]
        show _ = [_, _, some (V.int (prF p q 1 (prs.take i ++ [(pr.1, pr.2)]))), _, _]
        rw [prF_snoc]
        rfl
      · intro σ' H' hW
        obtain ⟨y3, y4, rfl, rfl⟩ := hW.out
        walk_at "go"
        rw [lx, List.take_length]
        exact z
/-- e is an element, worked out -/
def El (p q n : Int) : Prop := 1 ≤ n ∧ n < p ∧ n ^ q.toNat % p = 1
def spRoot : Sp := fun vs H Q _ => ∃ p q n : Int, vs = [.int p, .int q, .int n] ∧ 0 < q ∧ 0 < p ∧ p < 2147483648 ∧ ∀ b : Bool, (b = true ↔ El p q n) → Q (.bl b) H
theorem ok_is_root {f : Addr} {fd : FuncData} (F : Fun K "_is_root" "_is_root" s__is_root f fd) (C_power : C8.Cal P w K mg base 1 "power" spPower []) : FnOk P w K mg base CX0 2 f fd ["p", "q", "number"] spRoot := by
  refine F.ok sc__is_root (fun vs H Q E h => ?_) (fun cdv A outer s H vs Q E hr h => ?_)
  · obtain ⟨p, q, n, rfl, _⟩ := h
    rfl
  · obtain ⟨p, q, n, rfl, q0, p0, p1, z⟩ := h
    refine ⟨_, (pss_one (ps_ret (pe_and (pe_chain op_le op_lt pe_int (pv 2) (pv 0)) (pe_one (pe_cmpR op_eq (C8.pe_c C_power hr (by omega) rfl (pa_cons (pv 2) (pa_cons (pv 1) (pa_cons (pv 0) pa_nil)))) pe_int (nomark _)))))), ?_⟩
    walk_at "go"
    refine iteD (fun h1 => ?_) (fun h1 => ?_)
    · walk_at "go"
      refine iteD (fun h2 => ?_) (fun h2 => ?_)
      · walk_at "go"
        refine z _ ?_
        rw [decide_eq_true_eq]
        exact ⟨fun e => ⟨h1, h2, V.int.inj e⟩, fun e => congrArg V.int e.2.2⟩
      · walk_at "go"
        exact z _ ⟨fun e => (by cases e), fun e => absurd e.2.1 h2⟩
    · walk_at "go"
      exact z _ ⟨fun e => (by cases e), fun e => absurd e.1 h1⟩
/-- numbers that make a group -/
structure GOk (p q : Int) (bs : List Int) : Prop where
  p3 : 3 ≤ p
  pm : p ≤ 1000000
  pp : Pr p
  qp : Pr q
  dv : (p - 1) % q = 0
  l2 : 2 ≤ bs.length
  lm : bs.length ≤ 12
  el : ∀ b ∈ bs, b ≠ 1 ∧ El p q b
  nd : bs.Nodup
theorem GOk.q0 {p q : Int} {bs : List Int} (g : GOk p q bs) : 0 < q := by
  have := g.qp.1
  omega
theorem GOk.p0 {p q : Int} {bs : List Int} (g : GOk p q bs) : 1 < p := by
  have := g.p3
  omega
theorem GOk.ql {p q : Int} {bs : List Int} (g : GOk p q bs) : q < p := by
  have h := g.dv
  have := g.p3
  have := g.q0
  have h1 := Int.le_of_dvd (show (0 : Int) < p - 1 by omega) (Int.dvd_of_emod_eq_zero h)
  omega
def spCheckPrimes : Sp := fun vs H Q _ => ∃ p q : Int, vs = [.int p, .int q] ∧ 3 ≤ p ∧ p ≤ 1000000 ∧ Pr p ∧ Pr q ∧ (p - 1) % q = 0 ∧ Q .non H
theorem ok_check_primes {f : Addr} {fd : FuncData} (F : Fun K "_check_primes" "_check_primes" s__check_primes f fd) (G : Glb mg) (C_is_prime : C8.Cal P w K mg base 1 "is_prime" spIsPrime []) : FnOk P w K mg base CX0 2 f fd ["p", "q"] spCheckPrimes := by
  refine F.ok sc__check_primes (fun vs H Q E h => ?_) (fun cdv A outer s H vs Q E hr h => ?_)
  · obtain ⟨p, q, rfl, _⟩ := h
    rfl
  · obtain ⟨p, q, rfl, p3, pm, pp, qp, dv, z⟩ := h
    have q2 := qp.1
    have ql := Int.le_of_dvd (show (0 : Int) < p - 1 by omega) (Int.dvd_of_emod_eq_zero dv)
    refine ⟨_, (pss_cons (ps_if (PW.pt (pw_or (pt_not (pt_chain op_le op_le (pe_gint G.SMALLEST_P) (pv 0) (pe_gint G.LARGEST_P))) (pw_or1 (pt_not (pt_val (C8.pe_c C_is_prime hr (by omega) rfl (pa_cons (pv 0) pa_nil))))))) (pss_one ps_never) pss_nil)
      (pss_one (ps_if (PW.pt (pw_or (pt_cmpR op_lt (pv 1) pe_int (nomark _)) (pw_or (pt_cmpR op_ne (pe_op op_mod (pe_op op_sub (pv 0) pe_int) (pv 1)) pe_int (nomark _)) (pw_or1 (pt_not (pt_val (C8.pe_c C_is_prime hr (by omega) rfl (pa_cons (pv 1) pa_nil)))))))) (pss_one ps_never) pss_nil))), ?_⟩
    walk_at "go"
    refine iteD (fun h1 => ?_) (fun h1 => absurd p3 h1)
    walk_at "go"
    rw [decide_eq_true pm]
    walk_at "go"
    intro b hb
    walk_at "go"
    rw [hb.mpr pp]
    walk_at "go"
    rw [decide_eq_false (show ¬ q < 2 by omega)]
    walk_at "go"
    rw [show decide (V.int ((p - 1) % q) = V.int 0) = true from decide_eq_true (congrArg V.int dv)]
    walk_at "go"
    intro b hb
    walk_at "go"
    rw [hb.mpr qp]
    walk_at "go"
    exact z
def spCheckBases (K : PySem.W.Frag) : Sp := fun vs H Q _ => ∃ (p q : Int) (b : Addr) (bs : List Int), vs = [.int p, .int q, .ref b] ∧ SqL K H b (bs.map V.int) ∧ GOk p q bs ∧ ∀ H', Same H H' → Q .non H'
theorem ok_check_bases {f : Addr} {fd : FuncData} (F : Fun K "_check_bases" "_check_bases" s__check_bases f fd) (G : Glb mg) (B : Blt mg) (C__is_root : C8.Cal P w K mg base 2 "_is_root" spRoot []) : FnOk P w K mg base CX0 3 f fd ["p", "q", "bases"] (spCheckBases K) := by
  refine F.ok sc__check_bases (fun vs H Q E h => ?_) (fun cdv A outer s H vs Q E hr h => ?_)
  · obtain ⟨p, q, b, bs, rfl, _⟩ := h
    rfl
  · obtain ⟨p, q, b, bs, rfl, hb, g, z⟩ := h
    have l2 := g.l2
    have lm := g.lm
    have q0 := g.q0
    have p0 := g.p0
    have pm := g.pm
    refine ⟨_, (pss_cons (ps_if (pt_not (pt_chain op_le op_le (pe_gint G.FEWEST_BASES) (pe_callB (klen (K := K) rfl) (by rfl) B.len bt_len (pa_cons (pv 2) pa_nil)) (pe_gint G.MOST_BASES))) (pss_one ps_never) pss_nil)
      (pss_one (ps_for PassesOwn.never rfl (pi_enum (by rfl) B.enumerate (pa_cons (pv 2) pa_nil)) (kgtup (K := K) (n := 2) rfl rfl (pgs_cons (pg_name (i := 3) sc__check_bases.nd rfl (.inl rfl)) (pgs_cons (pg_name (i := 4) sc__check_bases.nd rfl (.inl rfl)) pgs_nil)))
      (pss_one (ps_if (PW.pt (pw_or (pt_cmpR op_eq (pv 4) pe_int (nomark _)) (pw_or (pt_not (pt_val (C8.pe_c C__is_root hr (by omega) rfl (pa_cons (pv 0) (pa_cons (pv 1) (pa_cons (pv 4) pa_nil)))))) (pw_or1 (pt_cmpR (kin (K := K) rfl) (pv 4) (pe_slice (ksll (K := K) rfl) (pv 2) po_none (po_some (pv 3))) rfl))))) (pss_one ps_never) pss_nil))))), ?_⟩
    walk_at "go"
    rw [List.length_map, decide_eq_true (show (2 : Int) ≤ bs.length by omega)]
    walk_at "go"
    rw [decide_eq_true (show (bs.length : Int) ≤ 12 by omega)]
    walk_at "go"
    refine for_enum (xs := bs.map V.int) (fun i σ' H' => At (∃ y3 y4, σ' = [some (.int p), some (.int q), some (.ref b), y3, y4] ∧ Same H H')) (.of ⟨_, _, rfl, Same.refl H⟩) (fun i σ' H' hW => ?_) ?_ ?_
    · obtain ⟨_, _, _, k⟩ := hW.out
      exact k.seq hb
    · intro i x T σ' H' hx hW hT
      obtain ⟨y3, y4, rfl, k⟩ := hW.out
      obtain ⟨n, hn, rfl⟩ : ∃ n, bs[i]? = some n ∧ x = V.int n := by
        rw [List.getElem?_map] at hx
        cases e : bs[i]? with
        | none =>
          rw [e] at hx
          cases hx
        | some n =>
          rw [e] at hx
          exact ⟨n, rfl, (Option.some.inj hx).symm⟩
      have mn := List.mem_of_getElem? hn
      have el := g.el n mn
      have k2 := k.trans (same_new (o := .tup [.int (i : Nat), .int n]) hT)
      have hb2 := k2.seq hb
      walk_at "go"
      rw [decide_eq_false (show ¬ V.int n = V.int 1 from fun e => el.1 (V.int.inj e))]
      walk_at "go"
      intro b' hb'
      walk_at "go"
      rw [hb'.mpr el.2]
      walk_at "go"
      intro c hc
      have k3 := k2.trans (same_new (o := .lst (cutV (bs.map V.int) none (some (i : Int)))) hc)
      rw [cut_take, ← List.map_take] at k3 ⊢
      refine ⟨_, _, rfl, .inl (SqL.of upd_same), rfl, flat_ints _, ?_⟩
      rw [inV_ints, decide_eq_false (show ¬ n ∈ bs.take i from fun m => ?_)]
      · walk_at "go"
        exact .of ⟨some (.int (i : Nat)), some (.int n), rfl, k3⟩
      · have hi := (List.getElem?_eq_some_iff.mp hn)
        obtain ⟨j, hj, e⟩ := List.mem_iff_getElem.mp m
        rw [List.length_take] at hj
        rw [List.getElem_take] at e
        have := (List.getElem_inj g.nd).mp (e.trans hi.2.symm)
        omega
    · intro σ' H' hW
      obtain ⟨y3, y4, rfl, k⟩ := hW.out
      exact z _ k
def spGroupInit (K : PySem.W.Frag) (C : Addr) : Sp := fun vs H Q _ => ∃ (x dx b : Addr) (p q : Int) (bs : List Int), vs = [.ref x, .int p, .int q, .ref b] ∧ H x = some (.ins C dx []) ∧ SqL K H b (bs.map V.int) ∧ GOk p q bs ∧
  ∀ H', (∀ a o, H a = some o → a ≠ x → H' a = some o) → GrpAt C H' x p q bs → Q .non H'
theorem ok_group_init {f C : Addr} {fd : FuncData} (F : Fun K "__init__" "Group.__init__" s_Group___init__ f fd) (T : GTxt K C) (B : Blt mg) (C__check_primes : C8.Cal P w K mg base 2 "_check_primes" spCheckPrimes []) (C__check_bases : C8.Cal P w K mg base 3 "_check_bases" (spCheckBases K) []) :
    FnOk P w K mg base CX0 4 f fd ["self", "p", "q", "bases"] (spGroupInit K C) := by
  refine F.ok sc_Group___init__ (fun vs H Q E h => ?_) (fun cdv A outer s H vs Q E hr h => ?_)
  · obtain ⟨x, dx, b, p, q, bs, rfl, _⟩ := h
    rfl
  · obtain ⟨x, dx, b, p, q, bs, rfl, hx, hb, g, z⟩ := h
    obtain ⟨cl, nP, nQ, nB⟩ := T
    obtain ⟨p3, pm, pp, qp, dv, _⟩ := id g
    refine ⟨_, (pss_cons (ps_expr (C8.pe_c C__check_primes hr (by omega) rfl (pa_cons (pv 1) (pa_cons (pv 2) pa_nil))))
      (pss_cons (ps_expr (C8.pe_c C__check_bases hr (by omega) rfl (pa_cons (pv 1) (pa_cons (pv 2) (pa_cons (pv 3) pa_nil)))))
      (pss_cons (ps_fld (pv 0) (pv 1) rfl)
      (pss_cons (ps_fld (pv 0) (pv 2) rfl)
      (pss_one (ps_fld (pv 0) (pe_callTy (ktuple (K := K) rfl) (by rfl) B.tuple bt_tuple (pa_cons (pv 3) pa_nil)) rfl)))))), ?_⟩
    walk_at "go"
    intro H1 k1
    have hx1 := k1 _ _ hx
    have hb1 := k1.seq hb
    walk_at "go"
    refine ⟨_, _, rfl, .inl ⟨sq_upd (sq_upd hb1 hx1) upd_same, fun t ht => ?_⟩⟩
    have nxt : x ≠ t := ne_of_none upd_same ht
    walk_at "go"
    refine z _ (fun a o ha na => ?_) ⟨dx, t, upd_same, ?_⟩
    · have nt : a ≠ t := fun e => by
        subst e
        rw [upd_ne na, upd_ne na, k1 _ _ ha] at ht
        cases ht
      rw [upd_ne na, upd_ne nt, upd_ne na, upd_ne na]
      exact k1 _ _ ha
    · rw [upd_ne nxt.symm, upd_same]
end

/-! ### the law's own group -/
abbrev s__law_power : Stmt := top 28
theorem sc__law_power : FnScope ["base", "exponent", "modulus", "result", "k"] ["base", "exponent", "modulus"] (defScope s__law_power) := ⟨rfl, rfl, rfl, by decide +kernel, rfl, by decide +kernel, by decide +kernel⟩
abbrev s__law_raised : Stmt := top 29
theorem sc__law_raised : FnScope ["group", "element", "exponent"] ["group", "element", "exponent"] (defScope s__law_raised) := ⟨rfl, rfl, rfl, by decide +kernel, rfl, by decide +kernel, by decide +kernel⟩
abbrev s__law_product : Stmt := top 30
theorem sc__law_product : FnScope ["group", "pairs", "result", "element", "exponent"] ["group", "pairs"] (defScope s__law_product) := ⟨rfl, rfl, rfl, by decide +kernel, rfl, by decide +kernel, by decide +kernel⟩
/-- the law's group: a tuple (p, q, bases) -/
def LgAt (H : Hp) (v : V) (p q : Int) (bs : List Int) : Prop := ∃ a b, v = .ref a ∧ H a = some (.tup [.int p, .int q, .ref b]) ∧ H b = some (.lst (bs.map V.int))
theorem LgAt.keep {H H' : Hp} {v : V} {p q : Int} {bs : List Int} (k : Keep H H') (h : LgAt H v p q bs) : LgAt H' v p q bs := by
  obtain ⟨a, b, rfl, h1, h2⟩ := h
  exact ⟨a, b, rfl, k _ _ h1 rfl, k _ _ h2 (pool_ints bs)⟩
section
variable {P : Program} {w : World} {K : PySem.W.Frag} {mg : Str → Option Value} {base : Heap}
def spLPower : Sp := fun vs H Q _ => ∃ a e m : Int, vs = [.int a, .int e, .int m] ∧ 1 < m ∧ m < 2147483648 ∧ e < 4611686018427387904 ∧ 0 ≤ e ∧ Q (.int (a ^ e.toNat % m)) H
theorem ok_law_power {f : Addr} {fd : FuncData} (F : Fun K "_law_power" "_law_power" s__law_power f fd) (B : Blt mg) : FnOk P w K mg base CX0 1 f fd ["base", "exponent", "modulus"] spLPower := by
  refine F.ok sc__law_power (fun vs H Q E h => ?_) (fun cdv A outer s H vs Q E hr h => ?_)
  · obtain ⟨a, e, m, rfl, _⟩ := h
    rfl
  · obtain ⟨a, e, m, rfl, m0, m1, e1, e0, z⟩ := h
    refine ⟨_, (pss_cons (ps_set (i := 3) sc__law_power.nd rfl (.inl rfl) pe_int)
      (pss_cons (ps_for PassesOwn.never rfl (pi_range1 rfl B.range (pa_cons (pv 1) pa_nil)) (pg_name (i := 4) sc__law_power.nd rfl (.inl rfl))
      (pss_one (ps_set (i := 3) sc__law_power.nd rfl (.inl rfl) (pe_op op_mod (pe_callTy call_int1 (by rfl) B.int bt_int (pa_cons (pe_op op_mul (pv 3) (pv 0)) pa_nil)) (pv 2)))))
      (pss_one (ps_ret (pv 3))))), ?_⟩
    walk_at "go"
    refine for_range (fun i σ' H' => At (∃ y, σ' = [some (.int a), some (.int e), some (.int m), some (.int (a ^ i % m)), y] ∧ H' = H)) (.of ⟨none, ?_, rfl⟩) ?_ ?_
    · rw [Int.pow_zero, Int.emod_eq_of_lt (by omega) m0]
      rfl
    · intro i σ' H' hi hW
      obtain ⟨y, rfl, rfl⟩ := hW.out
      have bd := emod_bd (a := a ^ i) (m := m) (by omega)
      walk_at "go"
      refine .of ⟨some (V.int (0 + (i : Int))), ?_, rfl⟩
      rw [Int.pow_succ, ← mul_emod_l]
      rfl
    · intro σ' H' hW
      obtain ⟨y, rfl, rfl⟩ := hW.out
      walk_at "go"
      exact z
def spLRaised : Sp := fun vs H Q _ => ∃ (v : V) (e k p q : Int) (bs : List Int), vs = [v, .int e, .int k] ∧ LgAt H v p q bs ∧ 0 < q ∧ q < 2147483648 ∧ 1 < p ∧ p < 2147483648 ∧ Q (.int (rz p q e k)) H
theorem ok_law_raised {f : Addr} {fd : FuncData} (F : Fun K "_law_raised" "_law_raised" s__law_raised f fd) (B : Blt mg) (C__law_power : C8.Cal P w K mg base 1 "_law_power" spLPower []) : FnOk P w K mg base CX0 2 f fd ["group", "element", "exponent"] spLRaised := by
  refine F.ok sc__law_raised (fun vs H Q E h => ?_) (fun cdv A outer s H vs Q E hr h => ?_)
  · obtain ⟨v, e, k, p, q, bs, rfl, _⟩ := h
    rfl
  · obtain ⟨v, e, k, p, q, bs, rfl, ⟨a, b, rfl, h1, h2⟩, q0, q1, p0, p1, z⟩ := h
    refine ⟨_, (pss_one (ps_ret (C8.pe_c C__law_power hr (by omega) rfl (pa_cons (pv 1) (pa_cons (pe_op op_mod (pe_callTy call_int1 (by rfl) B.int bt_int (pa_cons (pv 2) pa_nil)) (pe_ix (kixt (K := K) rfl) (pv 0) pe_int (fun _ _ => rfl))) (pa_cons (pe_ix (kixt (K := K) rfl) (pv 0) pe_int (fun _ _ => rfl)) pa_nil)))))), ?_⟩
    have := emod_bd (a := k) q0
    walk_at "go"
    exact z
def spLProduct : Sp := fun vs H Q _ => ∃ (v : V) (l : Addr) (p q : Int) (bs : List Int) (prs : List (Int × Int)), vs = [v, .ref l] ∧ LgAt H v p q bs ∧ 0 < q ∧ q < 2147483648 ∧ 1 < p ∧ p < 2147483648 ∧ Rp H (.ref l) (.list (prs.map prD)) ∧ Q (.int (prZ p q prs)) H
theorem ok_law_product {f : Addr} {fd : FuncData} (F : Fun K "_law_product" "_law_product" s__law_product f fd) (B : Blt mg) (C__law_raised : C8.Cal P w K mg base 2 "_law_raised" spLRaised []) : FnOk P w K mg base CX0 3 f fd ["group", "pairs"] spLProduct := by
  refine F.ok sc__law_product (fun vs H Q E h => ?_) (fun cdv A outer s H vs Q E hr h => ?_)
  · obtain ⟨v, l, p, q, bs, prs, rfl, _⟩ := h
    rfl
  · obtain ⟨v, l, p, q, bs, prs, rfl, G, q0, q1, p1, p2, hl, z⟩ := h
    obtain ⟨a, b, rfl, h1, h2⟩ := id G
    cases hl with
    | @lst _ xs _ hx np hr2 =>
      have lx : xs.length = prs.length := by rw [hr2.length, List.length_map]
      refine ⟨_, (pss_cons (ps_set (i := 2) sc__law_product.nd rfl (.inl rfl) pe_int)
      (pss_cons (ps_for PassesOwn.never rfl (kpil (K := K) rfl (pv 1)) (kgtup (K := K) (n := 2) rfl rfl (pgs_cons (pg_name (i := 3) sc__law_product.nd rfl (.inl rfl)) (pgs_cons (pg_name (i := 4) sc__law_product.nd rfl (.inl rfl)) pgs_nil)))
      (pss_one (ps_set (i := 2) sc__law_product.nd rfl (.inl rfl) (pe_op op_mod (pe_callTy call_int1 (by rfl) B.int bt_int (pa_cons (pe_op op_mul (pv 2) (C8.pe_c C__law_raised hr (by omega) rfl (pa_cons (pv 0) (pa_cons (pv 3) (pa_cons (pv 4) pa_nil))))) pa_nil)) (pe_ix (kixt (K := K) rfl) (pv 0) pe_int (fun _ _ => rfl))))))
      (pss_one (ps_ret (pv 2))))), ?_⟩
      walk_at "go"
      refine for_list (xs := xs) (fun i σ' H' => At (∃ y3 y4, σ' = [some (.ref a), some (.ref l), some (.int (prF p q 1 (prs.take i))), y3, y4] ∧ H' = H)) (.of ⟨_, _, rfl, rfl⟩) (fun i σ' H' _ hW => ?_) ?_ ?_
      · obtain ⟨_, _, _, rfl⟩ := hW.out
        exact SqL.of hx
      · intro i x σ' H' hi hW
        obtain ⟨y3, y4, rfl, rfl⟩ := hW.out
        have bd := prF_bd (q := q) p1 (prs.take i) 1 (by omega) p1
        obtain ⟨pr, ta, e1, rfl, ht⟩ := pairs_at hr2 hi
        refine ⟨ta, _, rfl, SqT.of ht, rfl, ?_⟩
        walk_at "go"
        refine .of ⟨some (V.int pr.1), some (V.int pr.2), ?_, rfl⟩
        rw [List.take_add_one, e1]
        show _ = [_, _, some (V.int (prF p q 1 (prs.take i ++ [(pr.1, pr.2)]))), _, _]
        rw [prF_snoc]
        rfl
      · intro σ' H' hW
        obtain ⟨y3, y4, rfl, rfl⟩ := hW.out
        walk_at "go"
        rw [lx, List.take_length]
        exact z
end

/-! ### commitments -/
abbrev s_commit : Stmt := top 21
theorem sc_commit : FnScope ["group", "exponents"] ["group", "exponents"] (defScope s_commit) := ⟨rfl, rfl, rfl, by decide +kernel, rfl, by decide +kernel, by decide +kernel⟩
abbrev s_is_relation : Stmt := top 23
theorem sc_is_relation : FnScope ["group", "exponents", "some", "exponent"] ["group", "exponents"] (defScope s_is_relation) := ⟨rfl, rfl, rfl, by decide +kernel, rfl, by decide +kernel, by decide +kernel⟩
def prsOf (bs es : List Int) : List (Int × Int) := bs.zip es
theorem zip_rp {H : Hp} : ∀ {ts : List Addr} {bs es : List Int}, Paired (fun (t : Addr) (p : V × V) => H t = some (.tup [p.1, p.2])) ts ((bs.map V.int).zip (es.map V.int)) → RpAll H (ts.map V.ref) ((bs.zip es).map prD)
  | [], [], _, _ => .nil
  | [], _ :: _, [], _ => .nil
  | [], _ :: _, _ :: _, h => nomatch h
  | _ :: _, [], _, h => nomatch h
  | _ :: _, _ :: _, [], h => nomatch h
  | t :: ts, b :: bs, e :: es, h => by
    cases h with
    | cons h1 h2 => exact .cons (.tup h1 (.cons (.int b) (.cons (.int e) .nil))) (zip_rp h2)
theorem pool_refs : ∀ ts : List Addr, poolV (ts.map V.ref) = false
  | [] => rfl
  | [_] => rfl
  | _ :: _ :: _ => rfl
section
variable {P : Program} {w : World} {K : PySem.W.Frag} {mg : Str → Option Value} {base : Heap}
def spCommit (K : PySem.W.Frag) (C : Addr) : Sp := fun vs H Q _ => ∃ (g l : Addr) (p q : Int) (bs es : List Int) (k : Bool), vs = [.ref g, .ref l] ∧ GrpAt C H g p q bs ∧ 0 < q ∧ 1 < p ∧ p < 2147483648 ∧ SqK k K H l (es.map V.int) ∧ ∀ H', Same H H' → Q (.int (prZ p q (bs.zip es))) H'
theorem ok_commit {f C : Addr} {fd : FuncData} (F : Fun K "commit" "commit" s_commit f fd) (T : GTxt K C) (B : Blt mg) (M_product : C8.Met P w K mg base 3 C "product" (spProduct C) []) : FnOk P w K mg base CX0 4 f fd ["group", "exponents"] (spCommit K C) := by
  refine F.ok sc_commit (fun vs H Q E h => ?_) (fun cdv A outer s H vs Q E hr h => ?_)
  · obtain ⟨g, l, p, q, bs, es, k, rfl, _⟩ := h
    rfl
  · obtain ⟨g, l, p, q, bs, es, k, rfl, G, q0, p1, p2, hl, z⟩ := h
    obtain ⟨dx, t, h1, h2⟩ := id G
    obtain ⟨cl, nP, nQ, nB⟩ := T
    refine ⟨_, (pss_one (ps_ret (C8.pe_mt M_product hr (by omega) (pv 0) (pa_cons (pe_listZip true k (K := K) rfl rfl (by rfl) B.list (by rfl) B.zip (pa_cons (kfld (K := K) rfl (pv 0)) (pa_cons (pv 1) pa_nil))) pa_nil)))), ?_⟩
    walk_at "go"
    refine ⟨t, l, _, _, rfl, SqT.of h2, hl, fun H' l' ts sm nl hl' hp => ?_⟩
    walk_at "go"
    exact ⟨_, _, _, _, _, _, rfl, G.keep (keep_same sm), q0, p1, p2, .lst hl' (pool_refs ts) (zip_rp hp), z H' sm⟩
def spIsRelation (K : PySem.W.Frag) (C : Addr) : Sp := fun vs H Q _ => ∃ (g l : Addr) (p q : Int) (bs es : List Int) (k : Bool), vs = [.ref g, .ref l] ∧ GrpAt C H g p q bs ∧ 0 < q ∧ 1 < p ∧ p < 2147483648 ∧ SqK k K H l (es.map V.int) ∧ es.length ≤ 1000 ∧
  ∀ H' b, Same H H' → (b = true ↔ (∃ e ∈ es, e % q ≠ 0) ∧ prZ p q (bs.zip es) = 1) → Q (.bl b) H'
theorem ok_is_relation {f C : Addr} {fd : FuncData} (F : Fun K "is_relation" "is_relation" s_is_relation f fd) (T : GTxt K C) (B : Blt mg) (C_commit : C8.Cal P w K mg base 4 "commit" (spCommit K C) []) : FnOk P w K mg base CX0 5 f fd ["group", "exponents"] (spIsRelation K C) := by
  refine F.ok sc_is_relation (fun vs H Q E h => ?_) (fun cdv A outer s H vs Q E hr h => ?_)
  · obtain ⟨g, l, p, q, bs, es, k, rfl, _⟩ := h
    rfl
  · obtain ⟨g, l, p, q, bs, es, k, rfl, G, q0, p1, p2, hl, ln, z⟩ := h
    obtain ⟨cl, nP, nQ, nB⟩ := T
    refine ⟨_, (pss_cons (ps_set (i := 2) sc_is_relation.nd rfl (.inl rfl) (pe_callB (kany (K := K) rfl rfl) (by rfl) B.any bt_any (pa_cons (pe_lc (own := [("exponent", 3)]) (g := gName 3) (tt := tYes) rfl sc_is_relation.nd (pi_K k (K := K) rfl (pv 1)) (blkOk_by (N := ["group", "exponents", "some", "exponent"]) (sc := defScope s_is_relation) (by decide +kernel))
        (fun _ _ _ _ _ => (pg_name (i := 3) sc_is_relation.nd rfl (.inl rfl))) (fun _ _ _ _ _ => pts_nil)
        (fun _ _ _ _ _ => (pe_cmpR op_ne (pe_op op_mod (pv 3) (kfld (K := K) rfl (pv 0))) pe_int (nomark _)))) pa_nil)))
      (pss_one (ps_ret (pe_and (pv 2) (pe_one (pe_cmpR op_eq (C8.pe_c C_commit hr (by omega) rfl (pa_cons (pv 0) (pa_cons (pv 1) pa_nil))) pe_int (nomark _))))))), ?_⟩
    have ne : ∀ H', Keep H H' → GrpAt C H' g p q bs := fun H' k => G.keep k
    walk_at "go"
    refine ⟨⟨_, hl⟩, fun D hD => ?_⟩
    have sD := same_new (o := .lst []) hD
    refine lc_K (xs := es.map V.int) (fun i H' => At (H' D = some (.lst ((es.take i).map fun e => V.bl (!decide (V.int (e % q) = V.int 0)))) ∧ Same H H')) (.of ⟨upd_same, sD⟩) (fun i H' _ hW => SqK.same hW.out.2 hl) ?_ ?_
    · intro i x H' hx hW
      obtain ⟨h1, sm⟩ := hW.out
      obtain ⟨e, he, rfl⟩ := map_get hx
      obtain ⟨dx, t, g1, g2⟩ := G.keep (keep_same sm)
      walk_at "go"
      refine ⟨_, h1, len_size (by rw [List.length_map, List.length_take]; omega), .of ⟨?_, same_mut sm hD⟩⟩
      rw [upd_same, take_map_snoc he]
    · intro H' hW
      obtain ⟨h1, sm⟩ := hW.out
      rw [List.length_map, List.take_length] at h1
      refine ⟨D, es.map fun e => !decide (V.int (e % q) = V.int 0), rfl, SqL.of (by rw [h1, List.map_map]; rfl), ?_⟩
      have ea : (es.map fun e => !decide (V.int (e % q) = V.int 0)).any id = true ↔ ∃ e ∈ es, e % q ≠ 0 := by
        rw [List.any_map, List.any_eq_true]
        refine ⟨fun ⟨e, h, z⟩ => ⟨e, h, fun y => ?_⟩, fun ⟨e, h, z⟩ => ⟨e, h, ?_⟩⟩
        · simp [y] at z
        · simp [z]
      generalize (es.map fun e => !decide (V.int (e % q) = V.int 0)).any id = sb at ea ⊢
      walk_at "go"
      refine iteB (fun hb => ?_) (fun hb => ?_)
      · walk_at "go"
        refine ⟨_, _, _, _, _, _, _, rfl, G.keep (keep_same sm), q0, p1, p2, SqK.same sm hl, fun H2 s2 => ?_⟩
        walk_at "go"
        refine z _ _ (sm.trans s2) ?_
        rw [decide_eq_true_eq]
        exact ⟨fun e => ⟨ea.mp hb, V.int.inj e⟩, fun e => congrArg V.int e.2⟩
      · walk_at "go"
        refine z _ _ sm ⟨fun e => (by cases e), fun e => ?_⟩
        rw [ea.mpr e.1] at hb
        cases hb
end

/-! ### a heap without one object: what does not touch it -/
def wo (H : Hp) (D : Addr) : Hp := fun b => if b = D then none else H b
theorem wo_ne {H : Hp} {D b : Addr} (h : b ≠ D) : wo H D b = H b := if_neg h
theorem wo_at {H : Hp} {D b : Addr} {o : HO} (h : wo H D b = some o) : b ≠ D ∧ H b = some o := by
  by_cases e : b = D
  · subst e
    unfold wo at h
    rw [if_pos rfl] at h
    cases h
  · exact ⟨e, by rw [wo_ne e] at h; exact h⟩
theorem wo_upd {H : Hp} {D : Addr} {o : HO} : wo (upd H D o) D = wo H D := by
  funext b
  by_cases e : b = D
  · subst e
    unfold wo
    rw [if_pos rfl, if_pos rfl]
  · rw [wo_ne e, wo_ne e, upd_ne e]
theorem wo_same (H : Hp) (D : Addr) : Same (wo H D) H := fun b o h => (wo_at h).2
theorem same_wo {H H' : Hp} {D : Addr} (s : Same H H') : Same (wo H D) (wo H' D) := fun b o h => by
  obtain ⟨n, h⟩ := wo_at h
  rw [wo_ne n]
  exact s _ _ h
theorem keep_wo {H H' : Hp} {D : Addr} (s : Keep H H') : Keep (wo H D) (wo H' D) := fun b o h p => by
  obtain ⟨n, h⟩ := wo_at h
  rw [wo_ne n]
  exact s _ _ h p
/-- what stood before D did not touch it -/
theorem same_to_wo {H H' : Hp} {D : Addr} (s : Same H H') (h : H D = none) : Same H (wo H' D) := fun b o e => by
  rw [wo_ne (ne_of_none e h)]
  exact s _ _ e
theorem keep_to_wo {H H' : Hp} {D : Addr} (s : Keep H H') (h : H D = none) : Keep H (wo H' D) := fun b o e p => by
  rw [wo_ne (ne_of_none e h)]
  exact s _ _ e p
theorem RpAll.snoc {H : Hp} {v : V} {d : PyData} : ∀ {vs : List V} {ds : List PyData}, RpAll H vs ds → Rp H v d → RpAll H (vs ++ [v]) (ds ++ [d])
  | _, _, .nil, r => .cons r .nil
  | _, _, .cons a t, r => .cons a (t.snoc r)
/-- p is none of what is kept -/
def Off (H : Hp) (p : Addr) : Prop := ∀ b o, H b = some o → poolO o = false → b ≠ p
theorem off_of {H H1 : Hp} {p : Addr} (s : Keep H H1) (f : H1 p = none) : Off H p := fun b o h n e => by
  have h1 := s b o h n
  rw [e, f] at h1
  cases h1
theorem keep_off {H0 H : Hp} {p : Addr} {o : HO} (s : Keep H0 H) (h : Off H0 p) : Keep H0 (upd H p o) := fun b x e n => by
  rw [upd_ne (h b x e n)]
  exact s b x e n

abbrev s__law_commit : Stmt := top 31
theorem sc__law_commit : FnScope ["group", "exponents", "k"] ["group", "exponents"] (defScope s__law_commit) := ⟨rfl, rfl, rfl, by decide +kernel, rfl, by decide +kernel, by decide +kernel⟩
section
variable {P : Program} {w : World} {K : PySem.W.Frag} {mg : Str → Option Value} {base : Heap}
def spLCommit (K : PySem.W.Frag) : Sp := fun vs H Q _ => ∃ (v : V) (l : Addr) (p q : Int) (bs es : List Int), vs = [v, .ref l] ∧ LgAt H v p q bs ∧ 0 < q ∧ q < 2147483648 ∧ 1 < p ∧ p < 2147483648 ∧ H l = some (.lst (es.map V.int)) ∧ es.length ≤ bs.length ∧ bs.length ≤ 1000 ∧
  ∀ H', Same H H' → Q (.int (prZ p q (bs.zip es))) H'
theorem ok_law_commit {f : Addr} {fd : FuncData} (F : Fun K "_law_commit" "_law_commit" s__law_commit f fd) (B : Blt mg) (C__law_product : C8.Cal P w K mg base 3 "_law_product" spLProduct []) : FnOk P w K mg base CX0 4 f fd ["group", "exponents"] (spLCommit K) := by
  refine F.ok sc__law_commit (fun vs H Q E h => ?_) (fun cdv A outer s H vs Q E hr h => ?_)
  · obtain ⟨v, l, p, q, bs, es, rfl, _⟩ := h
    rfl
  · obtain ⟨v, l, p, q, bs, es, rfl, G, q0, q1, p1, p2, hl, le, ln, z⟩ := h
    obtain ⟨a, b, rfl, h1, h2⟩ := id G
    refine ⟨_, (pss_one (ps_ret (C8.pe_c C__law_product hr (by omega) rfl (pa_cons (pv 0) (pa_cons (pe_lc (own := [("k", 2)]) (g := gName 2) (tt := tYes) rfl sc__law_commit.nd (pi_range1 rfl B.range (pa_cons (pe_callB (klen (K := K) rfl) (by rfl) B.len bt_len (pa_cons (pv 1) pa_nil)) pa_nil)) (blkOk_by (N := ["group", "exponents", "k"]) (sc := defScope s__law_commit) (by decide +kernel))
        (fun _ _ _ _ _ => (pg_name (i := 2) sc__law_commit.nd rfl (.inl rfl))) (fun _ _ _ _ _ => pts_nil)
        (fun _ _ _ _ _ => (pe_tup (pa_cons (pe_ix (kixl (K := K) rfl) (pe_ix (kixt (K := K) rfl) (pv 0) pe_int (fun _ _ => rfl)) (pv 2) (fun _ _ => rfl)) (pa_cons (pe_ix (kixl (K := K) rfl) (pv 1) (pv 2) (fun _ _ => rfl)) pa_nil))))) pa_nil))))), ?_⟩
    have el : (es.map V.int).length = es.length := List.length_map ..
    walk_at "go"
    intro D hD
    rw [el, Int.toNat_natCast]
    refine lc_range (n := es.length) (fun i H' => At (∃ ts : List Addr, H' D = some (.lst (ts.map V.ref)) ∧ RpAll (wo H' D) (ts.map V.ref) (((bs.zip es).take i).map prD) ∧ Same H H' ∧ ts.length ≤ i)) (.of ⟨[], upd_same, .nil, same_new hD, Nat.le_refl _⟩) ?_ ?_
    · intro i H' hi hW
      obtain ⟨ts, hd, hr', sm, lt⟩ := hW.out
      have g1 := sm _ _ h1
      have g2 := sm _ _ h2
      have g3 := sm _ _ hl
      have ib : i < bs.length := by omega
      have e1 : (bs.map V.int)[i]? = some (.int bs[i]) := by
        rw [List.getElem?_map, List.getElem?_eq_getElem ib]
        rfl
      have e2 : (es.map V.int)[i]? = some (.int es[i]) := by
        rw [List.getElem?_map, List.getElem?_eq_getElem hi]
        rfl
      have e3 : (bs.zip es)[i]? = some (bs[i], es[i]) := List.getElem?_zip_eq_some.mpr ⟨List.getElem?_eq_getElem ib, List.getElem?_eq_getElem hi⟩
      walk_at "go"
      refine ⟨_, _, _, _, rfl, rfl, SqL.of g2, at_of (Int.zero_add _) e1, ?_⟩
      walk_at "go"
      refine ⟨_, _, _, _, rfl, rfl, SqL.of g3, at_of (Int.zero_add _) e2, ?_⟩
      walk_at "go"
      intro T hT
      have nT : D ≠ T := ne_of_none hd hT
      refine ⟨_, (upd_ne nT).trans hd, len_size (by rw [List.length_map]; omega), .of ⟨ts ++ [T], ?_, ?_, same_mut (sm.trans (same_new hT)) hD, by rw [List.length_append]; simp; omega⟩⟩
      · rw [upd_same, List.map_append]
        rfl
      · rw [wo_upd, List.map_append, List.take_add_one, e3, List.map_append]
        refine RpAll.snoc (hr'.keep (keep_same (same_wo (same_new hT)))) (.tup (by rw [wo_ne nT.symm]; exact upd_same) (.cons (.int _) (.cons (.int _) .nil)))
    · intro H' hW
      obtain ⟨ts, hd, hr', sm, lt⟩ := hW.out
      walk_at "go"
      have ez : (bs.zip es).take es.length = bs.zip es := List.take_of_length_le (by rw [List.length_zip]; omega)
      rw [ez] at hr'
      exact ⟨_, _, _, _, _, _, rfl, G.keep (keep_same sm), q0, q1, p1, p2, .lst hd (pool_refs ts) (hr'.keep (keep_same (wo_same H' D))), z H' sm⟩
end

def tabN : List (Nat × Nat) := [(23, 11), (47, 23), (59, 29), (103, 17), (83, 41), (137, 17), (29, 7), (607, 101), (11, 5), (53, 13)]
def tabI : List (Int × Int) := [(23, 11), (47, 23), (59, 29), (103, 17), (83, 41), (137, 17), (29, 7), (607, 101), (11, 5), (53, 13)]

/-! ### _law_group: its table, the root, the bases -/
abbrev s__law_group : Stmt := top 32
theorem sc__law_group : FnScope ["pool", "count", "least", "pairs", "p", "q", "root", "number", "bases", "at", "step", "k", "exponent", "base", "pair"] ["pool", "count", "least"] (defScope s__law_group) := ⟨rfl, rfl, rfl, by decide +kernel, rfl, by decide +kernel, by decide +kernel⟩
abbrev s__law_numbers : Stmt := top 33
theorem sc__law_numbers : FnScope ["pool", "group", "count", "k"] ["pool", "group", "count"] (defScope s__law_numbers) := ⟨rfl, rfl, rfl, by decide +kernel, rfl, by decide +kernel, by decide +kernel⟩
def tab : List (Int × Int) := tabN.map fun x => ((x.1 : Int), (x.2 : Int))
theorem tab_eq : tab = tabI := rfl
def rootN (p q : Nat) : Nat := (List.range 38).foldl (fun r i => if r = 1 then (2 + i) ^ ((p - 1) / q) % p else r) 1
set_option maxRecDepth 100000 in
theorem tab_ok : ∀ x ∈ tabN, 3 ≤ x.1 ∧ x.1 ≤ 1000000 ∧ 3 ≤ x.2 ∧ x.2 ≤ 1100 ∧ (x.1 - 1) % x.2 = 0 ∧ (∀ d < 1001, 2 ≤ d → d * d ≤ x.1 → x.1 % d ≠ 0) ∧ (∀ d < 34, 2 ≤ d → d * d ≤ x.2 → x.2 % d ≠ 0) ∧
    1 < rootN x.1 x.2 ∧ rootN x.1 x.2 < x.1 ∧ rootN x.1 x.2 ^ x.2 % x.1 = 1 ∧ ∀ e < x.2, 1 ≤ e → rootN x.1 x.2 ^ e % x.1 ≠ 1 := by decide +kernel
/-- what the table's rows are -/
structure Row (p q R : Int) : Prop where
  p3 : 3 ≤ p
  pm : p ≤ 1000000
  q3 : 3 ≤ q
  qm : q ≤ 1100
  dv : (p - 1) % q = 0
  pp : Pr p
  qp : Pr q
  r1 : 1 < R
  rp : R < p
  rq : R ^ q.toNat % p = 1
  ro : ∀ e : Nat, 1 ≤ e → (e : Int) < q → R ^ e % p ≠ 1
theorem pr_of {n B : Nat} (h2 : 2 ≤ n) (hB : n < B * B) (h : ∀ d < B, 2 ≤ d → d * d ≤ n → n % d ≠ 0) : Pr (n : Int) := by
  refine ⟨by omega, fun d d2 dd e => ?_⟩
  obtain ⟨k, rfl⟩ : ∃ k : Nat, d = k := ⟨d.toNat, by omega⟩
  have kk : k * k ≤ n := by
    have : ((k * k : Nat) : Int) ≤ (n : Int) := by
      rw [Int.natCast_mul]
      exact dd
    omega
  have kB : k < B := by
    refine Nat.lt_of_not_le fun z => ?_
    have := Nat.mul_le_mul z z
    omega
  refine h k kB (by omega) kk ?_
  have : ((n % k : Nat) : Int) = 0 := by
    rw [Int.natCast_emod]
    exact e
  omega
theorem row_of {p q : Int} (h : (p, q) ∈ tab) : Row p q (rootN p.toNat q.toNat) := by
  unfold tab at h
  obtain ⟨⟨a, b⟩, hm, e⟩ := List.mem_map.mp h
  obtain ⟨rfl, rfl⟩ := Prod.mk.inj e
  obtain ⟨h1, h2, h3, h4, h5, h6, h7, h8, h9, h10, h11⟩ := tab_ok _ hm
  simp only at h1 h2 h3 h4 h5 h6 h7 h8 h9 h10 h11
  rw [Int.toNat_natCast, Int.toNat_natCast]
  have cast : ∀ e : Nat, ((rootN a b : Nat) : Int) ^ e % (a : Int) = ((rootN a b ^ e % a : Nat) : Int) := fun e => by
    rw [Int.natCast_emod, Int.natCast_pow]
  generalize rootN a b = R at h8 h9 h10 h11 cast
  refine ⟨by omega, by omega, by omega, by omega, ?_, pr_of (by omega) (B := 1001) (by omega) h6, pr_of (by omega) (B := 34) (by omega) h7, by omega, by omega, ?_, fun e e1 e2 => ?_⟩
  · rw [show (a : Int) - 1 = ((a - 1 : Nat) : Int) by omega, ← Int.natCast_emod, h5]
    rfl
  · rw [Int.toNat_natCast, cast, h10]
    rfl
  · rw [cast]
    have := h11 e (by omega) e1
    omega
/-- the powers of the root are different -/
theorem Row.inj {p q R : Int} (r : Row p q R) {i j : Nat} (hij : i < j) (hj : (j : Int) < q) : R ^ i % p ≠ R ^ j % p := by
  intro e
  have qn : ∃ n : Nat, q = n := ⟨q.toNat, by have := r.q3; omega⟩
  obtain ⟨n, rfl⟩ := qn
  have e2 : R ^ i * R ^ (n - i) % p = R ^ j * R ^ (n - i) % p := by rw [← mul_emod_l, e, mul_emod_l]
  rw [← Int.pow_add, ← Int.pow_add, show i + (n - i) = n by omega, show j + (n - i) = n + (j - i) by omega, Int.pow_add, ← mul_emod_l] at e2
  have rq := r.rq
  rw [Int.toNat_natCast] at rq
  rw [rq, Int.one_mul] at e2
  exact r.ro (j - i) (by omega) (by omega) e2.symm
theorem root_el {p q R : Int} (r : Row p q R) {e : Nat} (h1 : 1 ≤ e) (h2 : (e : Int) < q) : R ^ e % p ≠ 1 ∧ El p q (R ^ e % p) := by
  have hp := r.p3
  have bd := emod_bd (a := R ^ e) (m := p) (by omega)
  have ne := r.ro e h1 h2
  have pq : (R ^ e % p) ^ q.toNat % p = 1 := by
    rw [pow_emod, ← Int.pow_mul, Nat.mul_comm, Int.pow_mul, ← pow_emod, r.rq, Int.one_pow]
    exact Int.emod_eq_of_lt (by omega) (by omega)
  refine ⟨ne, ?_, bd.2, pq⟩
  refine Classical.byContradiction fun hz => ?_
  have z : R ^ e % p = 0 := by omega
  rw [z] at pq
  have q3 := r.q3
  rw [show q.toNat = (q.toNat - 1) + 1 by omega, Int.pow_succ, Int.mul_zero, Int.zero_emod] at pq
  omega
theorem nodup_le {α : Type} [DecidableEq α] : ∀ {l m : List α}, l.Nodup → (∀ x ∈ l, x ∈ m) → l.length ≤ m.length
  | [], _, _, _ => Nat.zero_le _
  | a :: l, m, h, s => by
    obtain ⟨n1, n2⟩ := List.nodup_cons.mp h
    have ha := s a (List.mem_cons_self ..)
    have ih := nodup_le (l := l) (m := m.erase a) n2 fun x hx => (List.mem_erase_of_ne (fun e => by subst e; exact n1 hx)).mpr (s x (List.mem_cons_of_mem _ hx))
    rw [List.length_erase_of_mem ha] at ih
    have := List.length_pos_of_mem ha
    rw [List.length_cons]
    omega
theorem rp_pair_ref {H : Hp} {v : V} {x : Int × Int} (h : Rp H v (prD x)) : ∃ t, v = .ref t ∧ H t = some (.tup [.int x.1, .int x.2]) := by
  have h' : Rp H v (.tuple [.int x.1, .int x.2]) := h
  cases h' with
  | @tup ta ys _ ht ra =>
    cases ra with
    | cons ra1 ra2 =>
      cases ra2 with
      | cons rb1 rb2 =>
        cases rb2
        cases ra1
        cases rb1
        exact ⟨ta, rfl, ht⟩
/-- a list of pairs of ints, written -/
def pairsTA : List (Int × Int) → TA
  | [] => tNil
  | x :: r => tCons (tTup (tCons (tC (.int x.1)) (tCons (tC (.int x.2)) tNil))) (pairsTA r)
theorem paTab {X : Cx} {es : List Expr} (l : List (Int × Int)) (h : PA X es (pairsTA l)) : PA X es (pairsTA l) := h
theorem pairsTA_ok {σ : L2.St} : ∀ {l : List (Int × Int)} {H : Hp} {Q : List V → Hp → Prop}, (∀ vs H', Same H H' → RpAll H' vs (l.map prD) → poolV vs = false → Q vs H') → pairsTA l σ H Q
  | [], H, Q, h => h [] H (Same.refl H) .nil rfl
  | x :: r, H, Q, h => by
    show _ ≤ sizeLine ∧ _
    refine ⟨Nat.le_of_ble_eq_true rfl, fun p hp => ?_⟩
    refine pairsTA_ok fun vs H' sm ra np => h (.ref p :: vs) H' ((same_new hp).trans sm) (.cons (.tup (sm _ _ upd_same) (.cons (.int _) (.cons (.int _) .nil))) ra) ?_
    cases r with
    | nil =>
      cases ra
      rfl
    | cons y ys =>
      cases ra with
      | cons a b =>
        obtain ⟨t, rfl, _⟩ := rp_pair_ref a
        rfl
section
variable {P : Program} {w : World} {K : PySem.W.Frag} {mg : Str → Option Value} {base : Heap}
def spLNumbers : Sp := fun vs H Q _ => ∃ (pl c : Addr) (v : V) (p q n : Int) (bs : List Int), vs = [.ref pl, v, .int n] ∧ PoolAt H pl c ∧ LgAt H v p q bs ∧ 0 < q ∧ q < 1073741824 ∧ 0 ≤ n ∧ n ≤ 1000 ∧
  ∀ (l : Addr) (ns : List Int) H', H l = none → (ns.length : Int) = n → (∀ x ∈ ns, 0 ≤ x ∧ x < q) → H' l = some (.lst (ns.map V.int)) → PoolAt H' pl c → Keep H H' → Q (.ref l) H'
theorem ok_law_numbers {f : Addr} {fd : FuncData} (F : Fun K "_law_numbers" "_law_numbers" s__law_numbers f fd) (B : Blt mg) (C__law_draw : C8.Cal P w K mg base 1 "_law_draw" spDraw []) : FnOk P w K mg base CX0 2 f fd ["pool", "group", "count"] spLNumbers := by
  refine F.ok sc__law_numbers (fun vs H Q E h => ?_) (fun cdv A outer s H vs Q E hr h => ?_)
  · obtain ⟨pl, c, v, p, q, n, bs, rfl, _⟩ := h
    rfl
  · obtain ⟨pl, c, v, p, q, n, bs, rfl, hP, G, q0, q1, n0, n1, z⟩ := h
    obtain ⟨a, b, rfl, h1, h2⟩ := id G
    refine ⟨_, (pss_one (ps_ret (pe_lc (own := [("k", 3)]) (g := gName 3) (tt := tYes) rfl sc__law_numbers.nd (pi_range1 rfl B.range (pa_cons (pv 2) pa_nil)) (blkOk_by (N := ["pool", "group", "count", "k"]) (sc := defScope s__law_numbers) (by decide +kernel))
        (fun _ _ _ _ _ => (pg_name (i := 3) sc__law_numbers.nd rfl (.inl rfl))) (fun _ _ _ _ _ => pts_nil)
        (fun _ _ _ _ _ => (C8.pe_c C__law_draw hr (by omega) rfl (pa_cons (pv 0) (pa_cons (pe_ix (kixt (K := K) rfl) (pv 1) pe_int (fun _ _ => rfl)) pa_nil))))))), ?_⟩
    walk_at "go"
    intro D hD
    obtain ⟨nl, nc⟩ := hP.ne hD
    refine lc_range (n := n.toNat) (fun i H' => At (∃ ns : List Int, ns.length = i ∧ (∀ x ∈ ns, 0 ≤ x ∧ x < q) ∧ H' D = some (.lst (ns.map V.int)) ∧ PoolAt H' pl c ∧ Keep H H')) (.of ⟨[], rfl, (fun _ h => nomatch h), upd_same, hP.mut nl nc, keep_new hD⟩) ?_ ?_
    · intro i H' hi hW
      obtain ⟨ns, ln, bd, hd, hP, kp⟩ := hW.out
      have g1 := kp _ _ h1 rfl
      walk_at "go"
      intro v H2 v0 v1 hP2 k2
      have hd2 := k2 _ _ hd (pool_ints ns)
      walk_at "go"
      refine ⟨_, hd2, len_size (by rw [List.length_map]; omega), .of ⟨ns ++ [v], by rw [List.length_append, ln]; rfl, fun x hx => ?_, ?_, hP2.mut nl nc, keep_mut (kp.trans k2) hD⟩⟩
      · rcases List.mem_append.mp hx with hx | hx
        · exact bd x hx
        · rw [List.mem_singleton.mp hx]
          exact ⟨v0, v1⟩
      · rw [upd_same, List.map_append]
        rfl
    · intro H' hW
      obtain ⟨ns, ln, bd, hd, hP, kp⟩ := hW.out
      walk_at "go"
      exact z D ns H' hD (by omega) bd hd hP kp
end

/-- what _law_group hands back -/
structure GG (p q : Int) (bs : List Int) (count least : Int) : Prop where
  tb : (p, q) ∈ tab
  ql : least ≤ q
  qc : count < q
  ln : (bs.length : Int) = count
  nd : bs.Nodup
  po : ∀ b ∈ bs, ∃ e : Nat, 1 ≤ e ∧ (e : Int) < q ∧ b = (rootN p.toNat q.toNat : Int) ^ e % p
def rootF (p q : Int) : Nat → Int
  | 0 => 1
  | i + 1 => if rootF p q i = 1 then (2 + i : Int) ^ ((p - 1) / q).toNat % p else rootF p q i
theorem rootF_nat (a b : Nat) (ha : 1 ≤ a) : ∀ i, rootF a b i = (((List.range i).foldl (fun r i => if r = 1 then (2 + i) ^ ((a - 1) / b) % a else r) 1 : Nat) : Int)
  | 0 => rfl
  | i + 1 => by
    rw [List.range_succ, List.foldl_append]
    show (if rootF a b i = 1 then _ else _) = _
    rw [rootF_nat a b ha i]
    generalize (List.range i).foldl (fun r i => if r = 1 then (2 + i) ^ ((a - 1) / b) % a else r) 1 = r
    show (if (r : Int) = 1 then _ else _) = ((if r = 1 then _ else _ : Nat) : Int)
    have e : (((a : Int) - 1) / (b : Int)).toNat = (a - 1) / b := by
      rw [show (a : Int) - 1 = ((a - 1 : Nat) : Int) by omega, ← Int.natCast_ediv, Int.toNat_natCast]
    by_cases h : r = 1
    · rw [if_pos (by omega), if_pos h, e, Int.natCast_emod, Int.natCast_pow]
      rfl
    · rw [if_neg (by omega), if_neg h]
theorem rootF_end {p q : Int} (h : 1 ≤ p) (hq : 0 ≤ q) : rootF p q 38 = (rootN p.toNat q.toNat : Int) := by
  obtain ⟨a, rfl⟩ : ∃ a : Nat, p = a := ⟨p.toNat, by omega⟩
  obtain ⟨b, rfl⟩ : ∃ b : Nat, q = b := ⟨q.toNat, by omega⟩
  rw [Int.toNat_natCast, Int.toNat_natCast, rootF_nat a b (by omega)]
  rfl
theorem rootF_bd {p q : Int} (h : 1 < p) : ∀ i, 0 ≤ rootF p q i ∧ rootF p q i < p
  | 0 => ⟨Int.zero_le_ofNat 1, h⟩
  | i + 1 => by
    unfold rootF
    split
    · exact emod_bd (by omega)
    · exact rootF_bd h i
section
variable {P : Program} {w : World} {K : PySem.W.Frag} {mg : Str → Option Value} {base : Heap}
def okRow (count least : Int) (x : Int × Int) : Bool := decide (least ≤ x.2) && decide (count < x.2)
def spLGroup : Sp := fun vs H Q _ => ∃ (pl c : Addr) (count least : Int), vs = [.ref pl, .int count, .int least] ∧ PoolAt H pl c ∧ 0 ≤ count ∧ count ≤ 1000 ∧ 0 < (tab.filter (okRow count least)).length ∧
  ∀ (v : V) (p q : Int) (bs : List Int) H', GG p q bs count least → LgAt H' v p q bs → PoolAt H' pl c → Keep H H' → Q v H'
set_option maxHeartbeats 2000000 in
theorem ok_law_group {f : Addr} {fd : FuncData} (F : Fun K "_law_group" "_law_group" s__law_group f fd) (B : Blt mg) (C__law_draw : C8.Cal P w K mg base 1 "_law_draw" spDraw []) (C__law_power : C8.Cal P w K mg base 1 "_law_power" spLPower []) : FnOk P w K mg base CX0 2 f fd ["pool", "count", "least"] spLGroup := by
  refine F.ok sc__law_group (fun vs H Q E h => ?_) (fun cdv A outer s H vs Q E hr h => ?_)
  · obtain ⟨pl, c, count, least, rfl, _⟩ := h
    rfl
  · obtain ⟨pl, c, count, least, rfl, hP, n0, n1, hf, z⟩ := h
    refine ⟨_, (pss_cons (ps_set (i := 3) sc__law_group.nd rfl (.inl rfl) (pe_lst (paTab tabI (pa_cons (pe_tup (pa_cons pe_int (pa_cons pe_int pa_nil))) (pa_cons (pe_tup (pa_cons pe_int (pa_cons pe_int pa_nil))) (pa_cons (pe_tup (pa_cons pe_int (pa_cons pe_int pa_nil))) (pa_cons (pe_tup (pa_cons pe_int (pa_cons pe_int pa_nil))) (pa_cons (pe_tup (pa_cons pe_int (pa_cons pe_int pa_nil))) (pa_cons (pe_tup (pa_cons pe_int (pa_cons pe_int pa_nil))) (pa_cons (pe_tup (pa_cons pe_int (pa_cons pe_int pa_nil))) (pa_cons (pe_tup (pa_cons pe_int (pa_cons pe_int pa_nil))) (pa_cons (pe_tup (pa_cons pe_int (pa_cons pe_int pa_nil))) (pa_cons (pe_tup (pa_cons pe_int (pa_cons pe_int pa_nil))) pa_nil)))))))))))))
      (pss_cons (ps_setLc (i := 3) (own := [("pair", 14)]) (g := gName 14) rfl sc__law_group.nd rfl rfl (sw_true rfl rfl rfl (by decide +kernel)) (kpil (K := K) rfl (pv 3)) (blkOk_by (N := ["pool", "count", "least", "pairs", "p", "q", "root", "number", "bases", "at", "step", "k", "exponent", "base", "pair"]) (sc := defScope s__law_group) (by decide +kernel))
        (fun _ _ _ _ _ => (pg_name (i := 14) sc__law_group.nd rfl (.inl rfl))) (fun _ _ _ _ _ => pts_one (PW.pt (pw_and (pt_cmpR op_ge (pe_ix (kixt (K := K) rfl) (pv 14) pe_int (fun _ _ => rfl)) (pv 2) (nomark _)) (pw_and1 (pt_cmpR op_gt (pe_ix (kixt (K := K) rfl) (pv 14) pe_int (fun _ _ => rfl)) (pv 1) (nomark _))))))
        (fun _ _ _ _ _ => (pv 14)))
      (pss_cons (ps_asg (pe_ix (kixl (K := K) rfl) (pv 3) (C8.pe_c C__law_draw hr (by omega) rfl (pa_cons (pv 0) (pa_cons (pe_callB (klen (K := K) rfl) (by rfl) B.len bt_len (pa_cons (pv 3) pa_nil)) pa_nil))) (fun _ _ => rfl)) (kgtup (K := K) (n := 2) rfl rfl (pgs_cons (pg_name (i := 4) sc__law_group.nd rfl (.inl rfl)) (pgs_cons (pg_name (i := 5) sc__law_group.nd rfl (.inl rfl)) pgs_nil))))
      (pss_cons (ps_set (i := 6) sc__law_group.nd rfl (.inl rfl) pe_int)
      (pss_cons (ps_for PassesOwn.never rfl (pi_range2 rfl B.range (pa_cons pe_int (pa_cons pe_int pa_nil))) (pg_name (i := 7) sc__law_group.nd rfl (.inl rfl))
      (pss_one (ps_if (pt_cmpR op_eq (pv 6) pe_int (nomark _)) (pss_one (ps_set (i := 6) sc__law_group.nd rfl (.inl rfl) (C8.pe_c C__law_power hr (by omega) rfl (pa_cons (pv 7) (pa_cons (pe_op op_fdiv (pe_op op_sub (pv 4) pe_int) (pv 5)) (pa_cons (pv 4) pa_nil)))))) pss_nil)))
      (pss_cons (ps_set (i := 8) sc__law_group.nd rfl (.inl rfl) (pe_lst pa_nil))
      (pss_cons (ps_set (i := 9) sc__law_group.nd rfl (.inl rfl) (C8.pe_c C__law_draw hr (by omega) rfl (pa_cons (pv 0) (pa_cons (pe_op op_sub (pv 5) pe_int) pa_nil))))
      (pss_cons (ps_set (i := 10) sc__law_group.nd rfl (.inl rfl) (pe_op op_add pe_int (C8.pe_c C__law_draw hr (by omega) rfl (pa_cons (pv 0) (pa_cons (pe_op op_sub (pv 5) pe_int) pa_nil)))))
      (pss_cons (ps_for PassesOwn.never rfl (pi_range1 rfl B.range (pa_cons (pe_op op_sub (pv 5) pe_int) pa_nil)) (pg_name (i := 11) sc__law_group.nd rfl (.inl rfl))
      (pss_one (ps_if (pt_cmpR op_lt (pe_callB (klen (K := K) rfl) (by rfl) B.len bt_len (pa_cons (pv 8) pa_nil)) (pv 1) (nomark _)) (pss_cons (ps_set (i := 12) sc__law_group.nd rfl (.inl rfl) (pe_op op_add pe_int (pe_op op_mod (pe_callTy call_int1 (by rfl) B.int bt_int (pa_cons (pe_op op_add (pv 9) (pe_op op_mul (pv 11) (pv 10))) pa_nil)) (pe_op op_sub (pv 5) pe_int))))
      (pss_cons (ps_set (i := 13) sc__law_group.nd rfl (.inl rfl) (C8.pe_c C__law_power hr (by omega) rfl (pa_cons (pv 6) (pa_cons (pv 12) (pa_cons (pv 4) pa_nil)))))
      (pss_one (ps_if (pt_cmpR (knin (K := K) rfl) (pv 13) (pv 8) rfl) (pss_one (ps_expr (pe_bm PySem.F.plainAttrs_list PySem.F.slot_list_append PySem.F.type_list_append mt_append (pv 8) (pa_cons (pv 13) pa_nil)))) pss_nil)))) pss_nil)))
      (pss_cons (ps_for PassesOwn.never rfl (pi_range2 rfl B.range (pa_cons pe_int (pa_cons (pv 5) pa_nil))) (pg_name (i := 12) sc__law_group.nd rfl (.inl rfl))
      (pss_cons (ps_set (i := 13) sc__law_group.nd rfl (.inl rfl) (C8.pe_c C__law_power hr (by omega) rfl (pa_cons (pv 6) (pa_cons (pv 12) (pa_cons (pv 4) pa_nil)))))
      (pss_one (ps_if (PW.pt (pw_and (pt_cmpR (knin (K := K) rfl) (pv 13) (pv 8) rfl) (pw_and1 (pt_cmpR op_lt (pe_callB (klen (K := K) rfl) (by rfl) B.len bt_len (pa_cons (pv 8) pa_nil)) (pv 1) (nomark _))))) (pss_one (ps_expr (pe_bm PySem.F.plainAttrs_list PySem.F.slot_list_append PySem.F.type_list_append mt_append (pv 8) (pa_cons (pv 13) pa_nil)))) pss_nil))))
      (pss_one (ps_ret (pe_tup (pa_cons (pv 4) (pa_cons (pv 5) (pa_cons (pv 8) pa_nil)))))))))))))))), ?_⟩
    -- pairs = [..]
    refine pairsTA_ok fun vs H1 s1 ra np => ?_
    have lv : vs.length = 10 := by rw [ra.length, List.length_map]; rfl
    refine ⟨by rw [lv]; exact Nat.le_of_ble_eq_true rfl, fun L hL => ?_⟩
    have s2 := s1.trans (same_new (o := .lst vs) hL)
    have ra2 := ra.keep (keep_same (same_new (o := .lst vs) hL))
    have hL2 : upd H1 L (.lst vs) L = some (.lst vs) := upd_same
    generalize upd H1 L (.lst vs) = H2 at s2 ra2 hL2 ⊢
    -- the rows that serve
    walk_at "go"
    intro D hD
    refine lc_list (xs := vs) (fun i H' => At (∃ ws, H' D = some (.lst ws) ∧ RpAll (wo H' D) ws (((tabI.take i).filter (okRow count least)).map prD) ∧ Same H2 H' ∧ ws.length ≤ i)) (.of ⟨[], upd_same, .nil, same_new hD, Nat.le_refl _⟩) (fun i H' _ hW => ?_) ?_ ?_
    · obtain ⟨ws, _, _, sm, _⟩ := hW.out
      exact SqL.of (sm _ _ hL2)
    · intro i x H' hx hW
      obtain ⟨ws, hd, rw', sm, lw⟩ := hW.out
      obtain ⟨⟨pp, qq⟩, t, e1, rfl, ht⟩ := pairs_at (ra2.keep (keep_same sm)) hx
      have ht' : wo H' D t = some (.tup [.int pp, .int qq]) := by
        rw [wo_ne (ne_of ht hd (by intro z; cases z))]
        exact ht
      have nx : ∀ (b : Bool), okRow count least (pp, qq) = b → ((tabI.take (i + 1)).filter (okRow count least)) = (tabI.take i).filter (okRow count least) ++ if b = true then [(pp, qq)] else [] := fun b hb => by
        rw [List.take_add_one, e1, List.filter_append]
        show _ ++ List.filter _ [(pp, qq)] = _
        rw [List.filter_cons, hb, List.filter_nil]
      have skip : okRow count least (pp, qq) = false → At (∃ ws, H' D = some (.lst ws) ∧ RpAll (wo H' D) ws (((tabI.take (i + 1)).filter (okRow count least)).map prD) ∧ Same H2 H' ∧ ws.length ≤ i + 1) := fun hb => by
        rw [nx false hb]
        exact .of ⟨ws, hd, by simpa using rw', sm, by omega⟩
      have ht0 := ht
      walk_at "go"
      refine iteD (fun c1 => ?_) (fun c1 => ?_)
      · walk_at "go"
        refine iteD (fun c2 => ?_) (fun c2 => ?_)
        · walk_at "go"
          refine ⟨_, hd, len_size (by have := (List.getElem?_eq_some_iff.mp hx).1; omega), .of ⟨ws ++ [.ref t], upd_same, ?_, same_mut sm hD, by rw [List.length_append]; simp; omega⟩⟩
          rw [wo_upd, nx true (by show (decide _ && decide _) = true; rw [decide_eq_true c1, decide_eq_true c2]; rfl), if_pos rfl, List.map_append]
          exact rw'.snoc (.tup ht' (.cons (.int _) (.cons (.int _) .nil)))
        · walk_at "go"
          exact skip (by show (decide _ && decide _) = false; rw [decide_eq_false c2, Bool.and_false])
      · walk_at "go"
        exact skip (by show (decide _ && decide _) = false; rw [decide_eq_false c1, Bool.false_and])
    · intro H3 hW
      obtain ⟨ws, hd, rw', sm, lw⟩ := hW.out
      have et : (tabI.take vs.length).filter (okRow count least) = tab.filter (okRow count least) := by
        rw [lv]
        rfl
      rw [et] at rw'
      have lws : ws.length = (tab.filter (okRow count least)).length := by rw [rw'.length, List.length_map]
      have rw3 := rw'.keep (keep_same (wo_same H3 D))
      have k3 : Keep H H3 := keep_same (s2.trans sm)
      have hP3 := hP.same (s2.trans sm)
      -- p, q = pairs[..]
      walk_at "go"
      intro v1 H4 a1 b1 hP4 k4
      have lt1 : v1.toNat < (tab.filter (okRow count least)).length := by
        have b1' : v1 < (ws.length : Int) := b1
        omega
      obtain ⟨vx, gx, rx⟩ := rw3.get (i := v1.toNat) (d := prD ((tab.filter (okRow count least))[v1.toNat])) (by rw [List.getElem?_map, List.getElem?_eq_getElem lt1]; rfl)
      obtain ⟨⟨p, q⟩, hpq⟩ : ∃ x, (tab.filter (okRow count least))[v1.toNat] = x := ⟨_, rfl⟩
      have hm : (p, q) ∈ tab.filter (okRow count least) := by
        rw [← hpq]
        exact List.getElem_mem lt1
      rw [hpq] at rx
      obtain ⟨t, rfl, ht⟩ := rp_pair_ref rx
      obtain ⟨hmt, hok⟩ := List.mem_filter.mp hm
      have row := row_of hmt
      have hok' : least ≤ q ∧ count < q := by
        have hok2 : (decide (least ≤ q) && decide (count < q)) = true := hok
        rw [Bool.and_eq_true, decide_eq_true_eq, decide_eq_true_eq] at hok2
        exact hok2
      have pw : poolV ws = false := by
        cases ws with
        | nil => rfl
        | cons y ys =>
          cases hx : tab.filter (okRow count least) with
          | nil =>
            rw [hx] at lws
            cases lws
          | cons z zs =>
            rw [hx] at rw3
            cases rw3 with
            | cons ha hb =>
              obtain ⟨t1, rfl, _⟩ := rp_pair_ref ha
              cases ys with
              | nil => rfl
              | cons y2 ys2 =>
                cases zs with
                | nil => cases hb
                | cons z2 zs2 =>
                  cases hb with
                  | cons hc hd =>
                    obtain ⟨t2, rfl, _⟩ := rp_pair_ref hc
                    rfl
      have hd4 := k4 _ _ hd pw
      refine ⟨_, _, _, _, rfl, rfl, SqL.of hd4, at_of (by omega) gx, ?_⟩
      have ht4 := k4 _ _ ht rfl
      refine ⟨t, _, rfl, SqT.of ht4, rfl, ?_⟩
      have p3 := row.p3
      have pm := row.pm
      have q3 := row.q3
      have qm := row.qm
      have dv0 : 0 ≤ (p - 1) / q := Int.ediv_nonneg (by omega) (by omega)
      have dv1 : (p - 1) / q ≤ p - 1 := Int.ediv_le_self _ (by omega)
      walk_at "go"
      -- the root
      refine for_range (n := 38) (fun i σ' H' => At (∃ y7, σ' = [some (.ref pl), some (.int count), some (.int least), some (.ref D), some (.int p), some (.int q), some (.int (rootF p q i)), y7, none, none, none, none, none, none, none] ∧ H' = H4)) (.of ⟨none, rfl, rfl⟩) ?_ ?_
      · intro i σ' H' hi hW
        obtain ⟨y7, rfl, rfl⟩ := hW.out
        walk_at "go"
        refine iteD (fun c1 => ?_) (fun c1 => ?_)
        · have c1' := V.int.inj c1
          walk_at "go"
          refine .of ⟨some (V.int (2 + (i : Int))), ?_, rfl⟩
          unfold rootF
          rw [if_pos c1']
          rfl
        · have c1' : ¬ rootF p q i = 1 := fun z => c1 (congrArg V.int z)
          walk_at "go"
          refine .of ⟨some (V.int (2 + (i : Int))), ?_, rfl⟩
          rw [show rootF p q (i + 1) = rootF p q i by show (if _ then _ else _) = _; rw [if_neg c1']]
          rfl
      · intro σ' H' hW
        obtain ⟨y7, rfl, rfl⟩ := hW.out
        rw [rootF_end (by omega) (by omega)]
        have r1 := row.r1
        have rp := row.rp
        generalize hR : ((rootN p.toNat q.toNat : Nat) : Int) = R at row r1 rp ⊢
        walk_at "go"
        -- the bases
        intro Bx hB
        obtain ⟨nl, nc⟩ := hP4.ne hB
        have hP5 := hP4.mut (o := .lst []) nl nc
        have k5 : Keep H (upd H' Bx (.lst [])) := (k3.trans k4).trans (keep_new hB)
        have hB0 : Off H Bx := off_of (k3.trans k4) hB
        have hBx : upd H' Bx (.lst []) Bx = some (.lst (([] : List Int).map V.int)) := upd_same
        generalize upd H' Bx (.lst []) = H5 at hP5 k5 hBx ⊢
        walk_at "go"
        intro at' H6 a6 b6 hP6 k6
        have hB6 := k6 _ _ hBx rfl
        walk_at "go"
        intro st H7 a7 b7 hP7 k7
        have hB7 := k7 _ _ hB6 rfl
        have kk7 := (k5.trans k6).trans k7
        walk_at "go"
        have GB : ∀ (ns : List Int) (e : Int), 1 ≤ e → e < q → (∀ b ∈ ns, ∃ e : Nat, 1 ≤ e ∧ (e : Int) < q ∧ b = R ^ e % p) → ∀ b ∈ ns ++ [R ^ e.toNat % p], ∃ e : Nat, 1 ≤ e ∧ (e : Int) < q ∧ b = R ^ e % p := fun ns e e1 e2 h b hb => by
          rcases List.mem_append.mp hb with hb | hb
          · exact h b hb
          · exact ⟨e.toNat, by omega, by omega, List.mem_singleton.mp hb⟩
        have ND : ∀ (ns : List Int) (x : Int), ns.Nodup → x ∉ ns → (ns ++ [x]).Nodup := fun ns x h n => List.nodup_append.mpr ⟨h, by simp, fun a ha b hb => by rw [List.mem_singleton.mp hb]; intro e; subst e; exact n ha⟩
        refine for_range (fun i σ' H' => At (∃ (ns : List Int) (y11 y12 y13 : Option V), σ' = [some (.ref pl), some (.int count), some (.int least), some (.ref D), some (.int p), some (.int q), some (.int R), y7, some (.ref Bx), some (.int at'), some (.int (1 + st)), y11, y12, y13, none] ∧ H' Bx = some (.lst (ns.map V.int)) ∧ PoolAt H' pl c ∧ Keep H H' ∧ ns.Nodup ∧ (ns.length : Int) ≤ count ∧ ∀ b ∈ ns, ∃ e : Nat, 1 ≤ e ∧ (e : Int) < q ∧ b = R ^ e % p)) (.of ⟨[], none, none, none, rfl, hB7, hP7, kk7, List.nodup_nil, n0, fun _ h => nomatch h⟩) ?_ ?_
        · intro i σ' H' hi hW
          obtain ⟨ns, y11, y12, y13, rfl, hb, hP, kp, nd, ln, po⟩ := hW.out
          walk_at "go"
          rw [List.length_map]
          refine iteD (fun c1 => ?_) (fun c1 => ?_)
          · have bm := emod_bd (a := at' + (0 + (i : Int)) * (1 + st)) (m := q - 1) (by omega)
            have i2 : (i : Int) < 2000 := by omega
            walk_at "go"
            rw [inV_ints]
            have e2 : 1 + (at' + (0 + (i : Int)) * (1 + st)) % (q - 1) < q := by omega
            refine iteN (fun c2 => ?_) (fun c2 => ?_)
            · walk_at "go"
              refine .of ⟨ns ++ [_], _, _, _, rfl, ?_, hP.mut nl nc, keep_off kp hB0, ND _ _ nd c2, ?_, GB ns _ (by omega) e2 po⟩
              · rw [upd_same, List.map_append]
                rfl
              · rw [List.length_append]
                simp only [List.length_cons, List.length_nil]
                omega
            · walk_at "go"
              exact .of ⟨ns, _, _, _, rfl, hb, hP, kp, nd, ln, po⟩
          · walk_at "go"
            exact .of ⟨ns, _, _, _, rfl, hb, hP, kp, nd, ln, po⟩
        · intro σ' H' hW
          obtain ⟨ns, y11, y12, y13, rfl, hb, hP, kp, nd, ln, po⟩ := hW.out
          walk_at "go"
          refine for_range (fun i σ' H' => At (∃ (ns : List Int) (y12 y13 : Option V), σ' = [some (.ref pl), some (.int count), some (.int least), some (.ref D), some (.int p), some (.int q), some (.int R), y7, some (.ref Bx), some (.int at'), some (.int (1 + st)), y11, y12, y13, none] ∧ H' Bx = some (.lst (ns.map V.int)) ∧ PoolAt H' pl c ∧ Keep H H' ∧ ns.Nodup ∧ (ns.length : Int) ≤ count ∧ (∀ b ∈ ns, ∃ e : Nat, 1 ≤ e ∧ (e : Int) < q ∧ b = R ^ e % p) ∧ ((ns.length : Int) < count → ∀ e : Nat, 1 ≤ e → e < 1 + i → R ^ e % p ∈ ns))) (.of ⟨ns, _, _, rfl, hb, hP, kp, nd, ln, po, fun _ e e1 e2 => by omega⟩) ?_ ?_
          · intro i σ' H' hi hW
            obtain ⟨ns, y12, y13, rfl, hb, hP, kp, nd, ln, po, al⟩ := hW.out
            have i2 : (1 : Int) + i < q := by omega
            have i3 : (1 + (i : Int)).toNat = 1 + i := by omega
            walk_at "go"
            rw [inV_ints]
            have skip : (R ^ (1 + (i : Int)).toNat % p ∈ ns ∨ ¬ (ns.length : Int) < count) → ((ns.length : Int) < count → ∀ e : Nat, 1 ≤ e → e < 1 + (i + 1) → R ^ e % p ∈ ns) := fun h hl e e1 e2 => by
              by_cases he : e < 1 + i
              · exact al hl e e1 he
              · have : e = 1 + i := by omega
                subst this
                rw [i3] at h
                exact h.resolve_right (fun z => z hl)
            refine iteN (fun c2 => ?_) (fun c2 => ?_)
            · walk_at "go"
              rw [List.length_map]
              refine iteD (fun c1 => ?_) (fun c1 => ?_)
              · walk_at "go"
                refine .of ⟨ns ++ [_], _, _, rfl, ?_, hP.mut nl nc, keep_off kp hB0, ND _ _ nd c2, ?_, GB ns _ (by omega) i2 po, fun hl e e1 e2 => ?_⟩
                · rw [upd_same, List.map_append]
                  rfl
                · rw [List.length_append]
                  simp only [List.length_cons, List.length_nil]
                  omega
                · by_cases he : e < 1 + i
                  · exact List.mem_append_left _ (al c1 e e1 he)
                  · have : e = 1 + i := by omega
                    subst this
                    rw [i3]
                    exact List.mem_append_right _ (List.mem_singleton.mpr rfl)
              · walk_at "go"
                exact .of ⟨ns, _, _, rfl, hb, hP, kp, nd, ln, po, skip (.inr c1)⟩
            · walk_at "go"
              exact .of ⟨ns, _, _, rfl, hb, hP, kp, nd, ln, po, skip (.inl c2)⟩
          · intro σ' H' hW
            obtain ⟨ns, y12, y13, rfl, hb, hP, kp, nd, ln, po, al⟩ := hW.out
            have full : (ns.length : Int) = count := by
              refine Classical.byContradiction fun hne => ?_
              have hl : (ns.length : Int) < count := by omega
              have al' := al hl
              have sub : ((List.range (q.toNat - 1)).map fun e => R ^ (e + 1) % p).length ≤ ns.length := by
                refine nodup_le ?_ fun x hx => ?_
                · refine List.pairwise_map.mpr (List.Pairwise.imp_of_mem (fun {a b} ha hb hab => ?_) List.pairwise_lt_range)
                  have := List.mem_range.mp hb
                  exact row.inj (show a + 1 < b + 1 by omega) (by omega)
                · obtain ⟨e, he, rfl⟩ := List.mem_map.mp hx
                  have := List.mem_range.mp he
                  exact al' (e + 1) (by omega) (by omega)
              rw [List.length_map, List.length_range] at sub
              omega
            walk_at "go"
            intro T hT
            have kT := kp.trans (keep_new (o := .tup [.int p, .int q, .ref Bx]) hT)
            refine z _ p q ns _ ⟨hmt, hok'.1, hok'.2, full, nd, fun b hb => ?_⟩ ⟨T, Bx, rfl, upd_same, ?_⟩ (hP.same (same_new hT)) kT
            · obtain ⟨e, e1, e2, e3⟩ := po b hb
              exact ⟨e, e1, e2, by rw [hR]; exact e3⟩
            · rw [upd_ne (ne_of_none hb hT)]
              exact hb
end

abbrev s__law_logs : Stmt := top 34
theorem sc__law_logs : FnScope ["group", "logs", "base", "k"] ["group"] (defScope s__law_logs) := ⟨rfl, rfl, rfl, by decide +kernel, rfl, by decide +kernel, by decide +kernel⟩
section
variable {P : Program} {w : World} {K : PySem.W.Frag} {mg : Str → Option Value} {base : Heap}
def spLLogs : Sp := fun vs H Q _ => ∃ (v : V) (p q : Int) (b0 : Int) (bs : List Int), vs = [v] ∧ LgAt H v p q (b0 :: bs) ∧ 0 < q ∧ q ≤ 1100 ∧ 1 < p ∧ p < 2147483648 ∧ bs.length ≤ 20 ∧
  (∀ b ∈ b0 :: bs, ∃ k : Nat, (k : Int) < q ∧ b0 ^ k % p = b) ∧
  ∀ (l : Addr) (ns : List Int) H', H l = none → bs.length + 1 ≤ ns.length → (∀ x ∈ ns, 0 ≤ x ∧ x < q) → H' l = some (.lst (ns.map V.int)) → Same H H' → Q (.ref l) H'
theorem ok_law_logs {f : Addr} {fd : FuncData} (F : Fun K "_law_logs" "_law_logs" s__law_logs f fd) (B : Blt mg) (C__law_power : C8.Cal P w K mg base 1 "_law_power" spLPower []) : FnOk P w K mg base CX0 2 f fd ["group"] spLLogs := by
  refine F.ok sc__law_logs (fun vs H Q E h => ?_) (fun cdv A outer s H vs Q E hr h => ?_)
  · obtain ⟨v, p, q, b0, bs, rfl, _⟩ := h
    rfl
  · obtain ⟨v, p, q, b0, bs, rfl, G, q0, q1, p1, p2, lb, sur, z⟩ := h
    obtain ⟨a, b, rfl, h1, h2⟩ := id G
    refine ⟨_, (pss_cons (ps_set (i := 1) sc__law_logs.nd rfl (.inl rfl) (pe_lst pa_nil))
      (pss_cons (ps_for PassesOwn.never rfl (kpil (K := K) rfl (pe_ix (kixt (K := K) rfl) (pv 0) pe_int (fun _ _ => rfl))) (pg_name (i := 2) sc__law_logs.nd rfl (.inl rfl))
      (pss_one (ps_for PassesOwn.never rfl (pi_range1 rfl B.range (pa_cons (pe_ix (kixt (K := K) rfl) (pv 0) pe_int (fun _ _ => rfl)) pa_nil)) (pg_name (i := 3) sc__law_logs.nd rfl (.inl rfl))
      (pss_one (ps_if (pt_cmpR op_eq (C8.pe_c C__law_power hr (by omega) rfl (pa_cons (pe_ix (kixl (K := K) rfl) (pe_ix (kixt (K := K) rfl) (pv 0) pe_int (fun _ _ => rfl)) pe_int (fun _ _ => rfl)) (pa_cons (pv 3) (pa_cons (pe_ix (kixt (K := K) rfl) (pv 0) pe_int (fun _ _ => rfl)) pa_nil)))) (pv 2) (nomark _)) (pss_one (ps_expr (pe_bm PySem.F.plainAttrs_list PySem.F.slot_list_append PySem.F.type_list_append mt_append (pv 1) (pa_cons (pv 3) pa_nil)))) pss_nil)))))
      (pss_one (ps_ret (pv 1))))), ?_⟩
    walk_at "go"
    intro D hD
    have g1 : upd H D (.lst []) a = _ := (upd_ne (ne_of_none h1 hD)).trans h1
    have g2 : upd H D (.lst []) b = _ := (upd_ne (ne_of_none h2 hD)).trans h2
    have k0 := same_new (o := .lst []) hD
    have d0 : upd H D (.lst []) D = some (.lst (([] : List Int).map V.int)) := upd_same
    generalize upd H D (.lst []) = H1 at g1 g2 k0 d0
    walk_at "go"
    refine for_list (xs := (b0 :: bs).map V.int) (fun i σ' H' => At (∃ (y2 y3 : Option V) (ns : List Int), σ' = [some (.ref a), some (.ref D), y2, y3] ∧ H' D = some (.lst (ns.map V.int)) ∧ Same H H' ∧ i ≤ ns.length ∧ ns.length ≤ i * 1100 ∧ ∀ x ∈ ns, 0 ≤ x ∧ x < q)) (.of ⟨none, none, [], rfl, d0, k0, Nat.le_refl _, Nat.zero_le _, fun _ h => nomatch h⟩) (fun i σ' H' _ hW => ?_) ?_ ?_
    · obtain ⟨y2, y3, ns, rfl, hd, kp, l1, l2, bd⟩ := hW.out
      exact SqL.of (kp _ _ h2)
    · intro i x σ' H' hx hW
      obtain ⟨y2, y3, ns, rfl, hd, kp, l1, l2, bd⟩ := hW.out
      obtain ⟨bi, hbi, rfl⟩ : ∃ bi : Int, (b0 :: bs)[i]? = some bi ∧ V.int bi = x := by
        rw [List.getElem?_map] at hx
        cases hb : (b0 :: bs)[i]? with
        | none =>
          rw [hb] at hx
          cases hx
        | some y =>
          rw [hb] at hx
          exact ⟨y, rfl, Option.some.inj hx⟩
      have il : i < bs.length + 1 := (List.getElem?_eq_some_iff.mp hbi).1
      obtain ⟨k0, k1, k2⟩ := sur bi (List.mem_of_getElem? hbi)
      have g1 := kp _ _ h1
      have g2 := kp _ _ h2
      walk_at "go"
      refine for_range (fun j σ' H' => At (∃ (y3 : Option V) (ns : List Int), σ' = [some (.ref a), some (.ref D), some (.int bi), y3] ∧ H' D = some (.lst (ns.map V.int)) ∧ Same H H' ∧ i ≤ ns.length ∧ (k0 < j → i + 1 ≤ ns.length) ∧ ns.length ≤ i * 1100 + j ∧ ∀ x ∈ ns, 0 ≤ x ∧ x < q)) (.of ⟨_, ns, rfl, hd, kp, l1, (fun z => absurd z (Nat.not_lt_zero _)), l2, bd⟩) ?_ ?_
      · intro j σ' H' hj hW
        obtain ⟨y3, ns, rfl, hd, kp, l1, l3, l2, bd⟩ := hW.out
        have g1 := kp _ _ h1
        have g2 := kp _ _ h2
        have jq : (j : Int) < q := by omega
        have jn : (0 + (j : Int)).toNat = j := by omega
        walk_at "go"
        refine ⟨_, _, _, _, rfl, rfl, SqL.of g2, at_of (j := 0) rfl rfl, ?_⟩
        walk_at "go"
        rw [jn]
        refine iteD (fun c => ?_) (fun c => ?_)
        · walk_at "go"
          refine .of ⟨some (.int (0 + (j : Int))), ns ++ [(j : Int)], ?_, ?_, same_mut kp hD, by rw [List.length_append]; omega, fun _ => by rw [List.length_append]; simp only [List.length_cons, List.length_nil]; omega, by rw [List.length_append]; simp only [List.length_cons, List.length_nil]; omega, fun x hx => ?_⟩
          · rfl
          · rw [upd_same, List.map_append]
            simp only [Int.zero_add]
            rfl
          · rcases List.mem_append.mp hx with hx | hx
            · exact bd x hx
            · rw [List.mem_singleton.mp hx]
              omega
        · walk_at "go"
          refine .of ⟨some (.int (0 + (j : Int))), ns, rfl, hd, kp, l1, fun z => ?_, by omega, bd⟩
          by_cases hz : k0 < j
          · exact l3 hz
          · have : k0 = j := by omega
            subst this
            exact absurd (congrArg V.int k2) c
      · intro σ' H' hW
        obtain ⟨y3, ns, rfl, hd, kp, l1, l3, l2, bd⟩ := hW.out
        walk_at "go"
        exact .of ⟨_, _, ns, rfl, hd, kp, l3 (by omega), by omega, bd⟩
    · intro σ' H' hW
      obtain ⟨y2, y3, ns, rfl, hd, kp, l1, l2, bd⟩ := hW.out
      walk_at "go"
      exact z D ns H' hD (by have := l1; rw [List.length_map] at this; exact this) bd hd kp
end

/-! ### each base is a power of the first one -/
theorem Pr.coprime {n e : Nat} (h : Pr (n : Int)) (e1 : 1 ≤ e) (e2 : e < n) : Nat.Coprime n e := by
  obtain ⟨n2, pr⟩ := h
  have d1 : Nat.gcd n e ∣ n := Nat.gcd_dvd_left n e
  have d2 : Nat.gcd n e ≤ e := Nat.le_of_dvd (by omega) (Nat.gcd_dvd_right n e)
  have d3 : 0 < Nat.gcd n e := Nat.gcd_pos_of_pos_left _ (by omega)
  show Nat.gcd n e = 1
  generalize Nat.gcd n e = d at d1 d2 d3
  refine Classical.byContradiction fun hd => ?_
  obtain ⟨m, rfl⟩ := d1
  have m2 : 2 ≤ m := by
    match m with
    | 0 => omega
    | 1 => omega
    | m + 2 => omega
  by_cases hc : d ≤ m
  · refine pr d (by omega) ?_ ?_
    · have := Nat.mul_le_mul_left d hc
      rw [← Int.natCast_mul]
      omega
    · rw [← Int.natCast_emod, Nat.mul_mod_right]
      rfl
  · refine pr m (by omega) ?_ ?_
    · have := Nat.mul_le_mul_right m (show m ≤ d by omega)
      rw [← Int.natCast_mul]
      omega
    · rw [← Int.natCast_emod, Nat.mul_mod_left]
      rfl
/-- multiplying by a number that is coprime meets each number -/
theorem mul_onto {n e : Nat} (h : Nat.Coprime n e) (hn : 0 < n) {t : Nat} (ht : t < n) : ∃ k, k < n ∧ e * k % n = t := by
  refine Classical.byContradiction fun hno => ?_
  have nd : (t :: (List.range n).map fun k => e * k % n).Nodup := by
    refine List.nodup_cons.mpr ⟨fun hm => ?_, ?_⟩
    · obtain ⟨k, hk, ek⟩ := List.mem_map.mp hm
      exact hno ⟨k, List.mem_range.mp hk, ek⟩
    · refine List.pairwise_map.mpr (List.Pairwise.imp_of_mem (fun {a b} ha hb hab he => ?_) List.pairwise_lt_range)
      have bn := List.mem_range.mp hb
      have dv : n ∣ e * (b - a) := by
        rw [Nat.mul_sub]
        exact Nat.dvd_of_mod_eq_zero (Nat.sub_mod_eq_zero_of_mod_eq he.symm)
      have := Nat.le_of_dvd (by omega) (h.dvd_of_dvd_mul_left dv)
      omega
  have := nodup_le nd (m := List.range n) fun x hx => by
    rcases List.mem_cons.mp hx with rfl | hx
    · exact List.mem_range.mpr ht
    · obtain ⟨k, _, rfl⟩ := List.mem_map.mp hx
      exact List.mem_range.mpr (Nat.mod_lt _ hn)
  rw [List.length_cons, List.length_map, List.length_range] at this
  omega
theorem Row.onto {p q R : Int} (r : Row p q R) {e0 e : Nat} (h0 : 1 ≤ e0) (h1 : (e0 : Int) < q) (h2 : (e : Int) < q) : ∃ k : Nat, (k : Int) < q ∧ (R ^ e0 % p) ^ k % p = R ^ e % p := by
  obtain ⟨n, rfl⟩ : ∃ n : Nat, q = n := ⟨q.toNat, by have := r.q3; omega⟩
  obtain ⟨k, hk, ek⟩ := mul_onto (Pr.coprime r.qp h0 (by omega)) (by omega) (show e < n by omega)
  refine ⟨k, by omega, ?_⟩
  have rq := r.rq
  rw [Int.toNat_natCast] at rq
  have hp := r.p3
  have e1 : (R ^ n) ^ (e0 * k / n) % p = 1 := by
    rw [← pow_emod, rq, Int.one_pow]
    exact Int.emod_eq_of_lt (by omega) (by omega)
  rw [pow_emod, ← Int.pow_mul, show e0 * k = n * (e0 * k / n) + e by rw [← ek]; exact (Nat.div_add_mod _ _).symm, Int.pow_add, Int.pow_mul, ← mul_emod_l, e1, Int.one_mul]
theorem GG.sur {p q count least b0 : Int} {bs : List Int} (g : GG p q (b0 :: bs) count least) : ∀ b ∈ b0 :: bs, ∃ k : Nat, (k : Int) < q ∧ b0 ^ k % p = b := by
  intro b hb
  have row := row_of g.tb
  obtain ⟨e0, a1, a2, a3⟩ := g.po b0 List.mem_cons_self
  obtain ⟨e, _, c2, c3⟩ := g.po b hb
  rw [a3, c3]
  exact row.onto a1 a2 c2

/-! ### any(..) of a list of ints -/
theorem anyI_get : ∀ {ns : List Int} {us : List Value}, Vals (ns.map V.int) us → ∀ (i : Nat) (v : Value), us[i]? = some v → ∃ t, v = .int (ns.getD i 0) t
  | [], _, h, i, v, e => by
    cases h
    cases e
  | n :: ns, _, h, i, v, e => by
    cases h with
    | cons r t =>
      cases i with
      | zero =>
        obtain rfl := Option.some.inj e
        exact r
      | succ i => exact anyI_get t i v e
theorem anyI_range : ∀ ns : List Int, (List.range ns.length).any (fun i => ns.getD i 0 != 0) = ns.any (· != 0)
  | [] => rfl
  | n :: ns => by
    rw [List.length_cons, List.range_succ_eq_map, List.any_cons, List.any_map, List.any_cons]
    rw [← anyI_range ns]
    rfl
theorem truthI {prog : Program} {w : World} {A : Around} {ns : List Int} {us : List Value} (h : Vals (ns.map V.int) us) : TruthOf prog w A (fun i v => us.toArray[i]? = some v) (fun i => ns.getD i 0 != 0) := by
  intro i v s Q E hv hq
  obtain ⟨t, rfl⟩ := anyI_get h i v (by simpa using hv)
  exact PyProof.Rows.truthy_int hq
def rAnyI (K : PySem.W.Frag) : List V → Hp → VK → Prop := fun vs H Q => ∃ (a : Addr) (ns : List Int), vs = [V.ref a] ∧ SqL K H a (ns.map V.int) ∧ Q (.bl (ns.any (· != 0))) H
theorem vals_len : ∀ {xs : List V} {us : List Value}, Vals xs us → us.length = xs.length
  | [], _, h => by
    cases h
    rfl
  | _ :: xs, _, h => by
    cases h with
    | cons r t => rw [List.length_cons, List.length_cons, vals_len t]
theorem kanyI {X : Cx} {K : PySem.W.Frag} (hK : X.K = K) (hc : X.calm = true) : CallR X (.builtin "any") (rAnyI K) := by
  subst hK
  intro pins s σ H vs us Q I r ⟨a, ns, e, hs, q⟩
  subst e
  obtain ⟨its, rv, hl, _⟩ := I.list hs
  rw [Vals.ref1 r]
  refine call_any_walk (iter_any hl.isList fun s₂ e2 st hne => ?_)
  subst e2
  refine ⟨_, _, _, _, _, _, _, rfl, Walks.list (A := X.A.in1) (I.ok.hd hc) _ a hne its.toArray, st, truthI rv, fun h' tk hk => ?_⟩
  refine ⟨.bl _, H, I.kept fun b o eo => hk b o (fun hm => ?_) (Heap.get?_push_of_some _ eo), ?_, q⟩
  · rcases List.mem_cons.mp hm with e1 | hm
    · exact absurd (e1 ▸ Heap.lt_size eo) (Nat.lt_irrefl _)
    · cases hm
  · show Value.bool _ = Value.bool _
    rw [← anyI_range, List.size_toArray, vals_len rv, List.length_map]

/-! ### relation -/
abbrev s_relation : Stmt := top 22
theorem sc_relation : FnScope ["group", "one", "other", "differences", "first", "second"] ["group", "one", "other"] (defScope s_relation) := ⟨rfl, rfl, rfl, by decide +kernel, rfl, by decide +kernel, by decide +kernel⟩
/-- an own error class over ValueError, without __init__ -/
structure Own (K : PySem.W.Frag) (mg : Str → Option Value) (x : Str) (C : Addr) : Prop where
  gF : mg x = some (.ref C)
  xF : PySem.W.excIn K C [.type "ValueError", .type "Exception", .type "BaseException", .type "object"] "ValueError.__new__" = true
  kF : PySem.W.keepIn K (.ref C) = true
  bF : PySem.W.subIn K (.ref C) (.type "BaseException") = some true
  tF : PySem.W.typeIn K (.ref C) = some (.type "type")
theorem lc_zipK {k1 k2 : Bool} {K : PySem.W.Frag} {a b : Addr} {xs ys : List V} {g : TG} {tt : TT} {te : TE} {vs : List Nat} {σ : L2.St} {H1 : Hp} {D : Addr} {Qd : Hp → Prop} (hl : xs.length = ys.length) (Pv : Nat → Hp → Prop) (h0 : Pv 0 (upd H1 D (.lst []))) (hq : ∀ i H, Pv i H → SqK k1 K H a xs ∧ SqK k2 K H b ys)
    (hs : ∀ (i : Nat) (x y : V) (T : Addr) (H : Hp), xs[i]? = some x → ys[i]? = some y → Pv i H → H T = none → g (.ref T) (wipe σ vs) (upd H T (.tup [x, y])) fun σ2 H2 => wipe σ2 vs = wipe σ vs ∧ tt σ2 H2 fun b H3 =>
      if b = true then te σ2 H3 fun y H4 => ∃ acc, H4 D = some (.lst acc) ∧ acc.length < sizeLine ∧ Pv (i + 1) (upd H4 D (.lst (acc ++ [y]))) else Pv (i + 1) H3) (hd : ∀ H, Pv xs.length H → Qd H) :
    ∃ W : Nat → Nat → Hp → Prop, (∃ m, W 0 m (upd H1 D (.lst []))) ∧ ∀ i m H, W i m H →
      ((ItzK k1 k2 K a b).stop i H ∧ Qd H) ∨ ((ItzK k1 k2 K a b).go i H ∧ ∃ Nx : Hp → Prop, (∀ H', Nx H' → ∃ m', m' < m ∧ W (i + 1) m' H') ∧ ∀ x H', (ItzK k1 k2 K a b).yld i H x H' → g x (wipe σ vs) H' fun σ2 H2 => wipe σ2 vs = wipe σ vs ∧ tt σ2 H2 fun b H3 =>
        if b = true then te σ2 H3 fun y H4 => ∃ acc, H4 D = some (.lst acc) ∧ acc.length < sizeLine ∧ Nx (upd H4 D (.lst (acc ++ [y]))) else Nx H3) := by
  refine ⟨fun i m H => m + i = xs.length ∧ Pv i H, ⟨xs.length, rfl, h0⟩, ?_⟩
  rintro i m H ⟨hm, p⟩
  obtain ⟨qx, qy⟩ := hq i H p
  by_cases hlt : i < xs.length
  · have hx : xs[i]? = some xs[i] := List.getElem?_eq_getElem hlt
    have hy : ys[i]? = some (ys[i]'(by omega)) := List.getElem?_eq_getElem (by omega)
    refine .inr ⟨⟨xs, ys, _, _, qx, qy, hx, hy⟩, Pv (i + 1), fun H' p' => ⟨m - 1, by omega, by omega, p'⟩, fun v H' yl => ?_⟩
    obtain ⟨T, x', y', rfl, hT, rfl, f1, f2⟩ := yl
    exact hs i x' y' T H (f1 xs qx) (f2 ys qy) p hT
  · have e : i = xs.length := by omega
    subst e
    exact .inl ⟨⟨xs, ys, qx, qy, Nat.le_refl _, by omega, .inl rfl⟩, hd H p⟩
theorem SqK.or {k : Bool} {K : PySem.W.Frag} {H : Hp} {a : Addr} {xs : List V} (h : SqK k K H a xs) : SqL K H a xs ∨ SqT K H a xs := by
  cases k with
  | true => exact .inr h
  | false => exact .inl h
section
variable {P : Program} {w : World} {K : PySem.W.Frag} {mg : Str → Option Value} {base : Heap}
def diffs (q : Int) (xs ys : List Int) : List Int := List.zipWith (fun x y => (x - y) % q) xs ys
def Shows (p q : Int) (bs xs ys : List Int) : Prop := xs.length = ys.length ∧ prZ p q (bs.zip xs) = prZ p q (bs.zip ys) ∧ ∃ d ∈ diffs q xs ys, d ≠ 0
def spRelation (K : PySem.W.Frag) (C CO : Addr) : Sp := fun vs H Q E => ∃ (g l1 l2 : Addr) (p q : Int) (bs xs ys : List Int) (k1 k2 : Bool), vs = [.ref g, .ref l1, .ref l2] ∧ GrpAt C H g p q bs ∧ 0 < q ∧ 1 < p ∧ p < 2147483648 ∧ SqK k1 K H l1 (xs.map V.int) ∧ SqK k2 K H l2 (ys.map V.int) ∧ xs.length ≤ 1000 ∧ ys.length ≤ 1000 ∧
  (∀ H', ¬ Shows p q bs xs ys → Same H H' → E (.ref CO) none H') ∧
  (∀ H' T, Shows p q bs xs ys → Same H H' → H' T = some (.tup ((diffs q xs ys).map V.int)) → Q (.ref T) H')
theorem ok_relation {f C CO : Addr} {fd : FuncData} (F : Fun K "relation" "relation" s_relation f fd) (T : GTxt K C) (B : Blt mg) (C_commit : C8.Cal P w K mg base 4 "commit" (spCommit K C) []) (Z_BadOpening : Own K mg "BadOpening" CO) : FnOk P w K mg base (L2.CX P w) 5 f fd ["group", "one", "other"] (spRelation K C CO) := by
  refine F.okX sc_relation (fun vs H Q E h => ?_) (fun cdv A outer s H vs Q E hr h => ?_)
  · obtain ⟨g, l1, l2, p, q, bs, xs, ys, k1, k2, rfl, _⟩ := h
    rfl
  · obtain ⟨g, l1, l2, p, q, bs, xs, ys, k1, k2, rfl, G, q0, p1, p2, hx, hy, nx, ny, zE, zQ⟩ := h
    obtain ⟨cl, nP, nQ, nB⟩ := T
    refine ⟨_, (pss_cons (ps_if (pt_cmpR op_ne (pe_callB (klen (K := K) rfl) (by rfl) B.len bt_len (pa_cons (pv 1) pa_nil)) (pe_callB (klen (K := K) rfl) (by rfl) B.len bt_len (pa_cons (pv 2) pa_nil)) (nomark _)) (pss_one (ps_raise rfl (takes_of rfl rfl rfl rfl) (pmk_own PySem.F.excBase_ValueError Z_BadOpening.xF Z_BadOpening.gF Z_BadOpening.kF (raises_own Z_BadOpening.bF Z_BadOpening.tF) (by exact rfl)))) pss_nil)
      (pss_cons (ps_if (pt_cmpR op_ne (C8.pe_c C_commit hr (by omega) rfl (pa_cons (pv 0) (pa_cons (pv 1) pa_nil))) (C8.pe_c C_commit hr (by omega) rfl (pa_cons (pv 0) (pa_cons (pv 2) pa_nil))) (nomark _)) (pss_one (ps_raise rfl (takes_of rfl rfl rfl rfl) (pmk_own PySem.F.excBase_ValueError Z_BadOpening.xF Z_BadOpening.gF Z_BadOpening.kF (raises_own Z_BadOpening.bF Z_BadOpening.tF) (by exact rfl)))) pss_nil)
      (pss_cons (ps_setLc (i := 3) (own := [("first", 4), ("second", 5)]) (tt := tYes) rfl sc_relation.nd rfl rfl (sw_true rfl rfl rfl (by decide +kernel)) (pi_zipK k1 k2 (K := K) rfl (by rfl) B.zip (pa_cons (pv 1) (pa_cons (pv 2) pa_nil))) (blkOk_by (N := ["group", "one", "other", "differences", "first", "second"]) (sc := defScope s_relation) (by decide +kernel))
        (fun _ _ _ _ _ => (kgtup (K := K) (n := 2) rfl rfl (pgs_cons (pg_name (i := 4) sc_relation.nd rfl (.inl rfl)) (pgs_cons (pg_name (i := 5) sc_relation.nd rfl (.inl rfl)) pgs_nil)))) (fun _ _ _ _ _ => pts_nil)
        (fun _ _ _ _ _ => (pe_op op_mod (pe_op op_sub (pv 4) (pv 5)) (kfld (K := K) rfl (pv 0)))))
      (pss_cons (ps_if (pt_not (pt_val (pe_callB (kanyI (K := K) rfl rfl) (by rfl) B.any bt_any (pa_cons (pv 3) pa_nil)))) (pss_one (ps_raise rfl (takes_of rfl rfl rfl rfl) (pmk_own PySem.F.excBase_ValueError Z_BadOpening.xF Z_BadOpening.gF Z_BadOpening.kF (raises_own Z_BadOpening.bF Z_BadOpening.tF) (by exact rfl)))) pss_nil)
      (pss_one (ps_ret (pe_callTy (ktuple (K := K) rfl) (by rfl) B.tuple bt_tuple (pa_cons (pv 3) pa_nil)))))))), ?_⟩
    walk_at "go"
    refine ⟨_, _, rfl, hx.or, ?_⟩
    walk_at "go"
    refine ⟨_, _, rfl, hy.or, ?_⟩
    walk_at "go"
    rw [List.length_map, List.length_map]
    refine iteN (fun c => ?_) (fun c => ?_)
    · walk_at "go"
      exact zE _ (fun z => c (by rw [z.1])) (Same.refl H)
    · have le : xs.length = ys.length := by
        have c' := V.int.inj c
        omega
      walk_at "go"
      refine ⟨_, _, _, _, _, _, _, rfl, G, q0, p1, p2, hx, fun H1 s1 => ?_⟩
      walk_at "go"
      refine ⟨_, _, _, _, _, _, _, rfl, G.keep (keep_same s1), q0, p1, p2, SqK.same s1 hy, fun H2 s2 => ?_⟩
      have s12 := s1.trans s2
      walk_at "go"
      refine iteN (fun c2 => ?_) (fun c2 => ?_)
      · walk_at "go"
        exact zE _ (fun z => c2 (congrArg V.int z.2.1)) s12
      · have hx2 := SqK.same s12 hx
        have hy2 := SqK.same s12 hy
        walk_at "go"
        refine ⟨l1, l2, _, _, rfl, hx2, hy2, fun D hD => ?_⟩
        have sD := same_new (o := .lst []) hD
        have dl : (diffs q xs ys).length = xs.length := by
          unfold diffs
          rw [List.length_zipWith]
          omega
        refine lc_zipK (by rw [List.length_map, List.length_map, le]) (fun i H' => At (H' D = some (.lst (((diffs q xs ys).take i).map V.int)) ∧ Same H2 H')) (.of ⟨upd_same, sD⟩) (fun i H' hW => ⟨SqK.same hW.out.2 hx2, SqK.same hW.out.2 hy2⟩) ?_ ?_
        · intro i x y T H' ex ey hW hT
          obtain ⟨h1, sm⟩ := hW.out
          obtain ⟨a, ha, rfl⟩ := map_get ex
          obtain ⟨b, hb, rfl⟩ := map_get ey
          have il : i < xs.length := (List.getElem?_eq_some_iff.mp ha).1
          have sT := same_new (o := .tup [V.int a, V.int b]) hT
          obtain ⟨dx, t, g1, g2⟩ := G.keep (keep_same ((s12.trans sm).trans sT))
          have gT : upd H' T (.tup [V.int a, V.int b]) T = some (.tup [V.int a, V.int b]) := upd_same
          have gD := sT _ _ h1
          generalize upd H' T (.tup [V.int a, V.int b]) = H3 at g1 g2 gT gD sT ⊢
          refine ⟨T, _, rfl, SqT.of gT, rfl, ?_⟩
          walk_at "go"
          refine ⟨_, gD, len_size (by rw [List.length_map, List.length_take]; omega), .of ⟨?_, same_mut (sm.trans sT) hD⟩⟩
          rw [upd_same, take_map_snoc (show (diffs q xs ys)[i]? = some ((a - b) % q) from ?_)]
          unfold diffs
          rw [List.getElem?_zipWith, ha, hb]
        · intro H3 hW
          obtain ⟨h1, sm⟩ := hW.out
          rw [List.length_map, ← dl, List.take_length] at h1
          walk_at "go"
          refine iteBn (c := (diffs q xs ys).any (· != 0)) (fun c3 => ?_) (fun c3 => ?_)
          · walk_at "go"
            refine zE _ (fun z => ?_) (s12.trans sm)
            obtain ⟨d, hd, dz⟩ := z.2.2
            rw [List.any_eq_false] at c3
            exact c3 d hd (by simp [dz])
          · have sh : Shows p q bs xs ys := by
              obtain ⟨d, hd, dz⟩ := List.any_eq_true.mp c3
              exact ⟨le, V.int.inj c2, d, hd, by simpa using dz⟩
            walk_at "go"
            exact ⟨D, _, rfl, .inl ⟨SqL.of h1, fun l hl => zQ _ l sh ((s12.trans sm).trans (same_new hl)) upd_same⟩⟩
end

/-! ### what the suite of an except asks -/
section
variable {X : Cx} {K : PySem.W.Frag}
theorem op_notBB : OpR X (compareOp .IsNot) (fun x y H Q => ∃ a b, x = .bl a ∧ y = .bl b ∧ Q (.bl (!decide (a = b))) H) := by
  intro pins s σ H x y v u Q I rx ry h
  obtain ⟨a, b, rfl, rfl, q⟩ := h
  cases rx
  cases ry
  show wpAny _ _ ((isSame (Value.bool a) (Value.bool b)) >>= fun z => pure (Value.bool (!z))) _ _ s
  refine wpAny_bind (wpAny_isSame_plain rfl (wpAny_pure (fin_bl I q ?_)))
  cases a <;> cases b <;> rfl
/-- the error that the suite holds is one of D, without fields of its own -/
theorem held_at {D a : Addr} {oe : Obj} {pn pins : List (Addr × Obj)} {s : Shared} {σ : L2.St} {H : Hp} (I : Inv (X.suite a ((a, oe) :: pn)) pins σ H s) (hz : Zc (.ref D) none oe) (hf : ∃ vs, oe.data = .fields vs) : PySem.W.InstAt s.heap a oe D none := by
  have g := (I.pin (a, oe) (List.mem_append.mpr (.inl List.mem_cons_self))).1
  rcases oe with ⟨c, d, t, l⟩
  obtain ⟨vs, e3⟩ := hf
  have e1 : c = .ref D := hz.1
  have e2 : d = none := hz.2
  have e4 : t = .fields vs := e3
  subst e1
  subst e2
  subst e4
  exact ⟨g, rfl, rfl, trivial⟩
def rKE (K : PySem.W.Frag) (a : Addr) (cls : Value) (d : Option Addr) : List V → Hp → VK → Prop := fun xs H Q => ∃ (D : Addr) (c : V) (u : Value) (b : Bool), cls = .ref D ∧ d = none ∧ ExcC K D ∧ xs = [.ref a, c] ∧ ClsV c u ∧ PySem.W.kitOne K (.ref D) u = some b ∧ Q (.bl b) H
def rKET (K : PySem.W.Frag) (a : Addr) (cls : Value) (d : Option Addr) : List V → Hp → VK → Prop := fun xs H Q => ∃ (D tp : Addr) (cs : List V) (us : List Value) (b : Bool), cls = .ref D ∧ d = none ∧ ExcC K D ∧ xs = [.ref a, .ref tp] ∧ H tp = some (.tup cs) ∧ Paired ClsV cs us ∧ PySem.W.kitAny K (.ref D) us = some b ∧ Q (.bl b) H
theorem kisE {a : Addr} {cls : Value} {d : Option Addr} {oe : Obj} {pn : List (Addr × Obj)} (hK : X.K = K) (hz : Zc cls d oe) (hf : ∃ vs, oe.data = .fields vs) : CallR (X.suite a ((a, oe) :: pn)) (.builtin "isinstance") (rKE K a cls d) := by
  subst hK
  intro pins s σ H xs us Q I r h
  obtain ⟨D, c, u, b, rfl, rfl, C, rfl, k, e, q⟩ := h
  exact call_isE C hz hf pins s σ H _ us Q I r ⟨c, u, b, rfl, fun v rv => k.eq rv, e, q⟩
theorem kisET {a : Addr} {cls : Value} {d : Option Addr} {oe : Obj} {pn : List (Addr × Obj)} (hK : X.K = K) (hz : Zc cls d oe) (hf : ∃ vs, oe.data = .fields vs) : CallR (X.suite a ((a, oe) :: pn)) (.builtin "isinstance") (rKET K a cls d) := by
  subst hK
  intro pins s σ H xs us Q I r h
  obtain ⟨D, tp, cs, ws, b, rfl, rfl, C, rfl, hT, k, e, q⟩ := h
  obtain ⟨u1, u2, rfl, r1, r2⟩ := vals2 r
  cases r1
  cases r2
  have J := held_at I hz hf
  obtain ⟨_, its, rv, ⟨oc, od, dt, sl⟩, g1, g2, n, g3⟩ : ObjOk X.prog X.w H s.heap tp (.tup cs) := I.hok tp _ hT
  have g2' : oc = .type "tuple" := g2
  subst g2'
  have g3' : dt = .seq its.toArray n := g3
  subst g3'
  have e3 := ClsV.all k rv
  subst e3
  exact PySem.W.kia_tup (PySem.W.handS_kitx_exc C.hg C.hk C.hs C.hd C.ha C.hn C.ht C.hm) I.kIn J g1 e (fun z => nomatch z) fun tk => ⟨.bl b, H, I.kept (t' := tk) fun _ _ z => z, rfl, q⟩
end

/-! ### max(..) of a tuple of ints -/
def rMaxT (K : PySem.W.Frag) : List V → Hp → VK → Prop := fun vs H Q => ∃ (a : Addr) (ns : List Int), vs = [V.ref a] ∧ SqT K H a (ns.map V.int) ∧ 0 < ns.length ∧ ∀ m, m ∈ ns → (∀ y, y ∈ ns → y ≤ m) → Q (.int m) H
theorem kmaxT {X : Cx} {K : PySem.W.Frag} (hK : X.K = K) (hc : X.calm = true) : CallR X (.builtin "max") (rMaxT K) := by
  subst hK
  intro pins s σ H vs us Q I r ⟨a, ns, e, hs, hne, q⟩
  subst e
  obtain ⟨its, rv, ⟨o, ho, hoc, n, hod⟩, _⟩ := I.tuple hs
  rw [Vals.ref1 r]
  have hi := rv.ints
  obtain ⟨xs, e⟩ := hi.allInts.items
  have hn : numsOf (intItems xs).toList = ns := by rw [← e]; exact hi.numsOf
  rw [nums_intItems] at hn
  subst hn
  rw [e] at hod
  have hsz : 0 < xs.size := by simpa using hne
  have ht : s.heap.IsTuple a (intItems xs) := ⟨o, ho, hoc, n, hod⟩
  have hlt : a < s.heap.objs.size := Heap.lt_size ho
  refine call_max_walk (wpAny_pyIter_tuple ht ?_)
  refine ⟨s.heap.objs.size, [s.heap.objs.size, a], [s.heap.objs.size], _, _, _, _, rfl, Walks.tuple (A := X.A.in1) (I.ok.hd hc) _ a (Nat.ne_of_lt hlt) (intItems xs),
    ⟨⟨_, Heap.get?_push_size _ rfl, rfl, rfl⟩, ht.push _⟩, fun b hb => ?_, by simpa [intItems] using hsz, CmpOf.ints_gt (numAt xs) (fun _ _ => intItems_at), fun v h' tk hv hk => ?_⟩
  · show b < (s.heap.push _).objs.size
    rw [Heap.size_push]
    rcases List.mem_cons.mp hb with z | z
    · rw [z]
      exact Nat.lt_succ_self _
    · rw [List.mem_singleton.mp z]
      exact Nat.lt_succ_of_lt hlt
  · have hv' : (intItems xs)[argBest (fun i j => decide (numAt xs i > numAt xs j)) (xs.size - 1)]? = some v := by simpa [intItems] using hv
    obtain ⟨t, rfl⟩ := intItems_at hv'
    obtain ⟨h1, h2⟩ := argBest_gt (numAt xs) (xs.size - 1)
    refine ⟨.int _, H, I.kept (t' := tk) fun b u eb => hk b u (fun hm => ?_) (Heap.get?_push_of_some _ eb), ⟨t, rfl⟩, q _ ?_ fun x hx => ?_⟩
    · rw [List.mem_singleton.mp hm] at eb
      exact absurd (Heap.lt_size eb) (Nat.lt_irrefl _)
    · rw [numAt_eq]
      exact PySem.getD_mem (by rw [List.length_map, Array.length_toList]; omega)
    · obtain ⟨j, hj, rfl⟩ := mem_getD hx
      rw [List.length_map, Array.length_toList] at hj
      rw [← numAt_eq]
      exact h2 j (by omega)

/-! ### the differences of two openings of one commitment -/
theorem mm (a b p : Int) : a % p * (b % p) % p = a * b % p := (Int.mul_emod a b p).symm
theorem one_mod {p : Int} (hp : 1 < p) : (1 : Int) % p = 1 := Int.emod_eq_of_lt (by omega) hp
theorem pow_mod_q {p q e : Int} (q0 : 0 < q) (hp : 1 < p) (h : e ^ q.toNat % p = 1) {a b : Nat} (hab : (a : Int) % q = (b : Int) % q) : e ^ a % p = e ^ b % p := by
  obtain ⟨n, rfl⟩ : ∃ n : Nat, q = n := ⟨q.toNat, by omega⟩
  rw [Int.toNat_natCast] at h
  have red : ∀ c : Nat, e ^ c % p = e ^ (c % n) % p := fun c => by
    have e2 : e ^ (n * (c / n)) % p = 1 := by
      rw [Int.pow_mul, ← pow_emod, h, Int.one_pow, one_mod hp]
    calc e ^ c % p = e ^ (n * (c / n) + c % n) % p := by rw [Nat.div_add_mod]
      _ = e ^ (n * (c / n)) % p * (e ^ (c % n) % p) % p := by rw [Int.pow_add, mm]
      _ = e ^ (c % n) % p := by rw [e2, Int.one_mul, Int.emod_emod]
  rw [red a, red b]
  have e3 : a % n = b % n := by
    have := hab
    rw [← Int.natCast_emod, ← Int.natCast_emod] at this
    omega
  rw [e3]
theorem rz_add {p q e : Int} (q0 : 0 < q) (hp : 1 < p) (h : e ^ q.toNat % p = 1) (k j : Int) : rz p q e k * rz p q e j % p = rz p q e (k + j) := by
  unfold rz
  rw [mm, ← Int.pow_add]
  have b1 := emod_bd (a := k) q0
  have b2 := emod_bd (a := j) q0
  have b3 := emod_bd (a := k + j) q0
  refine pow_mod_q q0 hp h ?_
  rw [Int.natCast_add, Int.toNat_of_nonneg b1.1, Int.toNat_of_nonneg b2.1, Int.toNat_of_nonneg b3.1, Int.emod_emod, ← Int.add_emod]
theorem rz_root {p q e : Int} (hp : 1 < p) (h : e ^ q.toNat % p = 1) (k : Int) : rz p q e k ^ q.toNat % p = 1 := by
  unfold rz
  rw [pow_emod, ← Int.pow_mul, Nat.mul_comm, Int.pow_mul, ← pow_emod, h, Int.one_pow, one_mod hp]
theorem rz_mod (p q e k : Int) : rz p q e (k % q) = rz p q e k := by
  unfold rz
  rw [Int.emod_emod]
theorem mul_root {p : Int} {n : Nat} {a b : Int} (hp : 1 < p) (ha : a ^ n % p = 1) (hb : b ^ n % p = 1) : (a * b % p) ^ n % p = 1 := by
  rw [pow_emod, Int.mul_pow, Int.mul_emod, ha, hb, Int.one_mul, one_mod hp]
theorem prF_root {p q : Int} (hp : 1 < p) : ∀ (l : List (Int × Int)) (a : Int), a ^ q.toNat % p = 1 → (∀ x ∈ l, x.1 ^ q.toNat % p = 1) → prF p q a l ^ q.toNat % p = 1
  | [], a, h, _ => h
  | (e, k) :: r, a, h, hl => prF_root hp r _ (mul_root hp h (rz_root hp (hl (e, k) List.mem_cons_self) k)) fun x hx => hl x (List.mem_cons_of_mem _ hx)
theorem prF_diff {p q : Int} (q0 : 0 < q) (hp : 1 < p) : ∀ (bs xs ys : List Int) (d y x : Int), xs.length = ys.length → (∀ b ∈ bs, b ^ q.toNat % p = 1) → d * y % p = x % p →
    prF p q d (bs.zip (diffs q xs ys)) * prF p q y (bs.zip ys) % p = prF p q x (bs.zip xs) % p
  | [], _, _, _, _, _, _, _, h => h
  | _ :: _, [], [], _, _, _, _, _, h => h
  | b :: bs, x :: xs, y :: ys, d, v, u, hl, hb, h => by
    have hb0 := hb b List.mem_cons_self
    refine prF_diff q0 hp bs xs ys _ _ _ (by simpa using hl) (fun c hc => hb c (List.mem_cons_of_mem _ hc)) ?_
    have key := rz_add q0 hp hb0 (x - y) y
    rw [show x - y + y = x by omega, ← rz_mod p q b (x - y)] at key
    rw [mm, Int.emod_emod, ← key, mul_emod_r]
    show d * rz p q b ((x - y) % q) * (v * rz p q b y) % p = _
    rw [show d * rz p q b ((x - y) % q) * (v * rz p q b y) = d * v * (rz p q b ((x - y) % q) * rz p q b y) by
      rw [Int.mul_assoc, Int.mul_assoc, Int.mul_left_comm (rz p q b ((x - y) % q))]]
    rw [Int.mul_emod, h, ← Int.mul_emod]
theorem prZ_diff {p q : Int} {bs xs ys : List Int} (q0 : 0 < q) (hp : 1 < p) (hl : xs.length = ys.length) (hb : ∀ b ∈ bs, b ^ q.toNat % p = 1) (he : prZ p q (bs.zip xs) = prZ p q (bs.zip ys)) : prZ p q (bs.zip (diffs q xs ys)) = 1 := by
  have key := prF_diff q0 hp bs xs ys 1 1 1 hl hb (by rw [Int.one_mul])
  have ry : prF p q 1 (bs.zip ys) ^ q.toNat % p = 1 := prF_root hp _ 1 (by rw [Int.one_pow, one_mod hp]) fun x hx => hb _ (List.of_mem_zip hx).1
  have bd := prF_bd (q := q) hp (bs.zip (diffs q xs ys)) 1 (by omega) hp
  unfold prZ at he ⊢
  rw [he] at key
  generalize prF p q 1 (bs.zip (diffs q xs ys)) = D at key bd ⊢
  generalize prF p q 1 (bs.zip ys) = Y at key ry
  have n1 : q.toNat = (q.toNat - 1) + 1 := by omega
  have e : D * Y ^ q.toNat % p = Y ^ q.toNat % p := by
    rw [n1, Int.pow_succ, Int.mul_comm (Y ^ _) Y, ← Int.mul_assoc, Int.mul_emod, key, ← Int.mul_emod]
  rw [Int.mul_emod, ry, Int.mul_one, Int.emod_emod, Int.emod_eq_of_lt bd.1 bd.2] at e
  exact e

/-! ### the law -/
abbrev s_law : Stmt := top 35
theorem sc_law : FnScope ["script", "pool", "group", "made", "count", "one", "way", "other", "logs", "lack", "due", "found", "e", "drawn", "told", "number", "k"] ["script"] (defScope s_law) := ⟨rfl, rfl, rfl, by decide +kernel, rfl, by decide +kernel, by decide +kernel⟩
theorem pe_globC {X : Cx} {x : Str} {C : Addr} {pos : Pos} (hg : Gl X x) (hm : X.mg x = some (.ref C)) (hd : (x == ("__debug__" : Str)) = false := by decide) : PE X (.Name x pos) (tC (.ref C)) := pe_glob hg hm rfl hd
structure CalX (P : Program) (w : World) (K : PySem.W.Frag) (mg : Str → Option Value) (base : Heap) (k : Nat) (x : Str) (sp : Sp) (f : Addr) (fd : FuncData) (ps : List Str) : Prop where
  ok : FnOk P w K mg base (L2.CX P w) k f fd ps sp
  gm : mg x = some (.ref f)
  kp : PySem.W.keepIn K (.ref f) = true
  bd : Binds K fd ps []
/-- the error classes, and what isinstance and except say of a BadOpening -/
structure Errs (K : PySem.W.Frag) (mg : Str → Option Value) (CO CV CG CQ CR CT CU : Addr) : Prop where
  VouchError : mg "VouchError" = some (.ref CV)
  BadOpening : mg "BadOpening" = some (.ref CO)
  BadGroup : mg "BadGroup" = some (.ref CG)
  BadQuestion : mg "BadQuestion" = some (.ref CQ)
  BadRequest : mg "BadRequest" = some (.ref CR)
  BadText : mg "BadText" = some (.ref CT)
  BadTurn : mg "BadTurn" = some (.ref CU)
  ex : ExcC K CO
  te : PySem.W.exmOne K (.ref CO) (.ref CV) = some true
  kO : PySem.W.kitOne K (.ref CO) (.ref CO) = some true
  kG : PySem.W.kitOne K (.ref CO) (.ref CG) = some false
  kQ : PySem.W.kitOne K (.ref CO) (.ref CQ) = some false
  kR : PySem.W.kitOne K (.ref CO) (.ref CR) = some false
  kT : PySem.W.kitOne K (.ref CO) (.ref CT) = some false
  kU : PySem.W.kitOne K (.ref CO) (.ref CU) = some false
theorem GG.ok {p q v : Int} {bs : List Int} (g : GG p q bs (2 + v) 7) (h0 : 0 ≤ v := by omega) (h1 : v ≤ 10 := by omega) : GOk p q bs := by
  have row := row_of g.tb
  have ln := g.ln
  refine ⟨row.p3, row.pm, row.pp, row.qp, row.dv, by omega, by omega, fun b hb => ?_, g.nd⟩
  obtain ⟨e, e1, e2, rfl⟩ := g.po b hb
  exact root_el row e1 e2
theorem cut1 (xs : List V) : cutV xs (some 1) none = xs.drop 1 := by
  cases xs with
  | nil => rfl
  | cons x xs =>
    have e1 : HT.sIx (x :: xs).length 0 (some 1) = 1 := by
      simp [HT.sIx]
    have e2 : HT.sIx (x :: xs).length (x :: xs).length none = xs.length + 1 := by
      simp [HT.sIx]
    unfold cutV
    rw [e1, e2, List.drop_one, List.tail_cons, Nat.add_sub_cancel, List.take_length]
section
variable {P : Program} {w : World} {K : PySem.W.Frag} {mg : Str → Option Value} {base : Heap}
def spLaw (K : PySem.W.Frag) : Sp := fun vs H Q _ => ∃ (a : Addr) (ns : List Int), vs = [.ref a] ∧ SqL K H a (ns.map V.int) ∧ ∀ H', Q (.bl true) H'
set_option maxHeartbeats 8000000 in
theorem ok_law {f C CO CV CG CQ CR CT CU fR : Addr} {fd fdR : FuncData} (F : Fun K "law" "law" s_law f fd) (T : GTxt K C) (B : Blt mg) (G : Errs K mg CO CV CG CQ CR CT CU)
    (C__law_pool : C8.Cal P w K mg base 1 "_law_pool" (spPool K) []) (C__law_draw : C8.Cal P w K mg base 1 "_law_draw" spDraw []) (C__law_group : C8.Cal P w K mg base 2 "_law_group" spLGroup []) (C__law_numbers : C8.Cal P w K mg base 2 "_law_numbers" spLNumbers [])
    (C__law_same : C8.Cal P w K mg base 6 "_law_same" (spSame 6) []) (C__law_commit : C8.Cal P w K mg base 4 "_law_commit" (spLCommit K) []) (C__law_logs : C8.Cal P w K mg base 2 "_law_logs" spLLogs []) (C_commit : C8.Cal P w K mg base 4 "commit" (spCommit K C) [])
    (C_is_relation : C8.Cal P w K mg base 5 "is_relation" (spIsRelation K C) []) (X_relation : CalX P w K mg base 5 "relation" (spRelation K C CO) fR fdR ["group", "one", "other"]) (K_Group : C8.Mak P w K mg base 4 "Group" C (spGroupInit K C) []) : FnOk P w K mg base CX0 8 f fd ["script"] (spLaw K) := by
  refine F.ok sc_law (fun vs H Q E h => ?_) (fun cdv A outer s H vs Q E hr h => ?_)
  · obtain ⟨a, ns, rfl, _⟩ := h
    rfl
  · obtain ⟨sc, ns, rfl, hs, z⟩ := h
    refine ⟨_, (pss_cons (ps_set (i := 1) sc_law.nd rfl (.inr rfl) (C8.pe_c C__law_pool hr (by omega) rfl (pa_cons (pv 0) (pa_cons pe_int pa_nil))))
      (pss_cons (ps_set (i := 2) sc_law.nd rfl (.inr rfl) (C8.pe_c C__law_group hr (by omega) rfl (pa_cons (pv 1) (pa_cons (pe_op op_add pe_int (C8.pe_c C__law_draw hr (by omega) rfl (pa_cons (pv 1) (pa_cons pe_int pa_nil)))) (pa_cons pe_int pa_nil)))))
      (pss_cons (ps_set (i := 3) sc_law.nd rfl (.inl rfl) (C8.pe_mk K_Group hr (by omega) rfl (pa_cons (pe_ix (kixt (K := K) rfl) (pv 2) pe_int (fun _ _ => rfl)) (pa_cons (pe_ix (kixt (K := K) rfl) (pv 2) pe_int (fun _ _ => rfl)) (pa_cons (pe_ix (kixt (K := K) rfl) (pv 2) pe_int (fun _ _ => rfl)) pa_nil)))))
      (pss_cons (ps_set (i := 4) sc_law.nd rfl (.inl rfl) (pe_op op_add pe_int (C8.pe_c C__law_draw hr (by omega) rfl (pa_cons (pv 1) (pa_cons (pe_callB (klen (K := K) rfl) (by rfl) B.len bt_len (pa_cons (pe_ix (kixt (K := K) rfl) (pv 2) pe_int (fun _ _ => rfl)) pa_nil)) pa_nil)))))
      (pss_cons (ps_set (i := 5) sc_law.nd rfl (.inr rfl) (pe_lc (own := [("number", 15)]) (g := gName 15) (tt := tYes) rfl sc_law.nd (kpil (K := K) rfl (C8.pe_c C__law_numbers hr (by omega) rfl (pa_cons (pv 1) (pa_cons (pv 2) (pa_cons (pv 4) pa_nil))))) (blkOk_by (N := ["script", "pool", "group", "made", "count", "one", "way", "other", "logs", "lack", "due", "found", "e", "drawn", "told", "number", "k"]) (sc := defScope s_law) (by decide +kernel))
        (fun _ _ _ _ _ => (pg_name (i := 15) sc_law.nd rfl (.inl rfl))) (fun _ _ _ _ _ => pts_nil)
        (fun _ _ _ _ _ => (pe_op op_sub (pv 15) (pe_op op_mul (pe_ix (kixt (K := K) rfl) (pv 2) pe_int (fun _ _ => rfl)) (C8.pe_c C__law_draw hr (by omega) rfl (pa_cons (pv 1) (pa_cons pe_int pa_nil))))))))
      (pss_cons (ps_if (pt_not (pt_val (C8.pe_c C__law_same hr (by omega) rfl (pa_cons (C8.pe_c C_commit hr (by omega) rfl (pa_cons (pv 3) (pa_cons (pv 5) pa_nil))) (pa_cons (C8.pe_c C__law_commit hr (by omega) rfl (pa_cons (pv 2) (pa_cons (pv 5) pa_nil))) pa_nil))))) (pss_one (ps_ret pe_bl)) pss_nil)
      (pss_cons (ps_set (i := 6) sc_law.nd rfl (.inl rfl) (C8.pe_c C__law_draw hr (by omega) rfl (pa_cons (pv 1) (pa_cons pe_int pa_nil))))
      (pss_cons (ps_set (i := 7) sc_law.nd rfl (.inr rfl) (C8.pe_c C__law_numbers hr (by omega) rfl (pa_cons (pv 1) (pa_cons (pv 2) (pa_cons (pv 4) pa_nil)))))
      (C8.pss_cut (ps_if (pt_cmpR op_lt (pv 6) pe_int (nomark _)) (pss_cons (ps_set (i := 8) sc_law.nd rfl (.inr rfl) (C8.pe_c C__law_logs hr (by omega) rfl (pa_cons (pv 2) pa_nil)))
      (pss_cons (ps_set (i := 9) sc_law.nd rfl (.inl rfl) (pe_callB (ksum (K := K) rfl rfl) (by rfl) B.sum bt_sum (pa_cons (pe_lc (own := [("k", 16)]) (g := gName 16) (tt := tYes) rfl sc_law.nd (pi_range2 rfl B.range (pa_cons pe_int (pa_cons (pv 4) pa_nil))) (blkOk_by (N := ["script", "pool", "group", "made", "count", "one", "way", "other", "logs", "lack", "due", "found", "e", "drawn", "told", "number", "k"]) (sc := defScope s_law) (by decide +kernel))
        (fun _ _ _ _ _ => (pg_name (i := 16) sc_law.nd rfl (.inl rfl))) (fun _ _ _ _ _ => pts_nil)
        (fun _ _ _ _ _ => (pe_op op_mul (pe_op op_sub (pe_ix (kixl (K := K) rfl) (pv 5) (pv 16) (fun _ _ => rfl)) (pe_ix (kixl (K := K) rfl) (pv 7) (pv 16) (fun _ _ => rfl))) (pe_ix (kixl (K := K) rfl) (pv 8) (pv 16) (fun _ _ => rfl))))) pa_nil)))
      (pss_one (ps_asg (pe_op op_mod (pe_callTy call_int1 (by rfl) B.int bt_int (pa_cons (pe_op op_add (pe_ix (kixl (K := K) rfl) (pv 5) pe_int (fun _ _ => rfl)) (pv 9)) pa_nil)) (pe_ix (kixt (K := K) rfl) (pv 2) pe_int (fun _ _ => rfl))) (pg_sub (pv 7) pe_int set_list))))) pss_nil)
      (C8.pss_cut (ps_if (pt_cmpR op_eq (pv 6) pe_int (nomark _)) (pss_one (ps_set (i := 7) sc_law.nd rfl (.inr rfl) (pe_lc (own := [("number", 15)]) (g := gName 15) (tt := tYes) rfl sc_law.nd (kpil (K := K) rfl (pv 5)) (blkOk_by (N := ["script", "pool", "group", "made", "count", "one", "way", "other", "logs", "lack", "due", "found", "e", "drawn", "told", "number", "k"]) (sc := defScope s_law) (by decide +kernel))
        (fun _ _ _ _ _ => (pg_name (i := 15) sc_law.nd rfl (.inl rfl))) (fun _ _ _ _ _ => pts_nil)
        (fun _ _ _ _ _ => (pe_op op_add (pv 15) (pe_op op_mul (pe_ix (kixt (K := K) rfl) (pv 2) pe_int (fun _ _ => rfl)) (C8.pe_c C__law_draw hr (by omega) rfl (pa_cons (pv 1) (pa_cons pe_int pa_nil))))))))) pss_nil)
      (C8.pss_cut (ps_if (pt_cmpR op_eq (pv 6) pe_int (nomark _)) (pss_one (ps_set (i := 7) sc_law.nd rfl (.inr rfl) (pe_slice (ksll (K := K) rfl) (pv 7) (po_some pe_int) po_none))) pss_nil)
      (C8.pss_cut (ps_if (pt_cmpR op_eq (C8.pe_c C__law_draw hr (by omega) rfl (pa_cons (pv 1) (pa_cons pe_int pa_nil))) pe_int (nomark _)) (pss_one (ps_asg (pe_tup (pa_cons (pv 7) (pa_cons (pv 5) pa_nil))) (kgtup (K := K) (n := 2) rfl rfl (pgs_cons (pg_name (i := 5) sc_law.nd rfl (.inr rfl)) (pgs_cons (pg_name (i := 7) sc_law.nd rfl (.inr rfl)) pgs_nil))))) pss_nil)
      (pss_cons (ps_set (i := 10) sc_law.nd rfl (.inl rfl) pe_non)
      (C8.pss_cut (ps_if (PW.pt (pw_and (pt_cmpR op_eq (pe_callB (klen (K := K) rfl) (by rfl) B.len bt_len (pa_cons (pv 5) pa_nil)) (pe_callB (klen (K := K) rfl) (by rfl) B.len bt_len (pa_cons (pv 7) pa_nil)) (nomark _)) (pw_and1 (pt_cmpR op_eq (C8.pe_c C__law_commit hr (by omega) rfl (pa_cons (pv 2) (pa_cons (pv 5) pa_nil))) (C8.pe_c C__law_commit hr (by omega) rfl (pa_cons (pv 2) (pa_cons (pv 7) pa_nil))) (nomark _))))) (pss_cons (ps_set (i := 10) sc_law.nd rfl (.inl rfl) (pe_callTy (ktuple (K := K) rfl) (by rfl) B.tuple bt_tuple (pa_cons (pe_lc (own := [("k", 16)]) (g := gName 16) (tt := tYes) rfl sc_law.nd (pi_range1 rfl B.range (pa_cons (pv 4) pa_nil)) (blkOk_by (N := ["script", "pool", "group", "made", "count", "one", "way", "other", "logs", "lack", "due", "found", "e", "drawn", "told", "number", "k"]) (sc := defScope s_law) (by decide +kernel))
        (fun _ _ _ _ _ => (pg_name (i := 16) sc_law.nd rfl (.inl rfl))) (fun _ _ _ _ _ => pts_nil)
        (fun _ _ _ _ _ => (pe_op op_mod (pe_callTy call_int1 (by rfl) B.int bt_int (pa_cons (pe_op op_sub (pe_ix (kixl (K := K) rfl) (pv 5) (pv 16) (fun _ _ => rfl)) (pe_ix (kixl (K := K) rfl) (pv 7) (pv 16) (fun _ _ => rfl))) pa_nil)) (pe_ix (kixt (K := K) rfl) (pv 2) pe_int (fun _ _ => rfl))))) pa_nil)))
      (pss_one (ps_if (pt_cmpR op_eq (pe_callB (kmaxT (K := K) rfl rfl) (by rfl) B.max bt_max (pa_cons (pv 10) pa_nil)) pe_int (nomark _)) (pss_one (ps_set (i := 10) sc_law.nd rfl (.inl rfl) pe_non)) pss_nil))) pss_nil)
      (C8.pss_cut (ps_try_as (i := 12) (Wout := fun _ _ _ _ => False) rfl rfl sc_law.nd rfl rfl ⟨rfl, by decide, .inl G.VouchError⟩ takes0
        (fun W pn xe tk _ => (pss_one (ps_set (i := 11) sc_law.nd rfl (.inl rfl) (by exact (pe_callS X_relation.ok (hr.mono (by decide)) rfl X_relation.gm X_relation.kp X_relation.bd (fun σ => passAt tk σ) (pa_cons (pv 3) (pa_cons (pv 5) (pa_cons (pv 7) pa_nil))))))))
        (fun a oe cls d pn hz hf => (pss_cons (ps_if (PW.pt (pw_or (pt_cmpR op_notN (pv 10) pe_non (nomark _)) (pw_or (pt_not (pt_val (pe_callB (kisE (K := K) rfl hz hf) (by rfl) B.isinstance bt_isinstance (pa_cons (pv 12) (pa_cons (pe_globC rfl G.BadOpening) pa_nil))))) (pw_or1 (pt_val (pe_callB (kisET (K := K) rfl hz hf) (by rfl) B.isinstance bt_isinstance (pa_cons (pv 12) (pa_cons (pe_tup (pa_cons (pe_globC rfl G.BadGroup) (pa_cons (pe_globC rfl G.BadQuestion) (pa_cons (pe_globC rfl G.BadRequest) (pa_cons (pe_globC rfl G.BadText) (pa_cons (pe_globC rfl G.BadTurn) pa_nil)))))) pa_nil)))))))) (pss_one (ps_ret pe_bl)) pss_nil)
      (pss_one (ps_set (i := 11) sc_law.nd rfl (.inl rfl) pe_non)))))
      (C8.pss_cut (ps_if (PW.pt (pw_or (pt_not (pt_val (C8.pe_c C__law_same hr (by omega) rfl (pa_cons (pv 11) (pa_cons (pv 10) pa_nil))))) (pw_or1 (PW.pt (pw_and (pt_cmpR op_notN (pv 10) pe_non (nomark _)) (pw_and1 (pt_cmpR op_notBB (C8.pe_c C_is_relation hr (by omega) rfl (pa_cons (pv 3) (pa_cons (pv 11) pa_nil))) pe_bl (nomark _)))))))) (pss_one (ps_ret pe_bl)) pss_nil)
      (C8.pss_cut (ps_setLc (i := 13) (own := [("k", 16)]) (g := gName 16) (tt := tYes) rfl sc_law.nd rfl rfl (sw_true rfl rfl rfl (by decide +kernel)) (pi_range1 rfl B.range (pa_cons (pv 4) pa_nil)) (blkOk_by (N := ["script", "pool", "group", "made", "count", "one", "way", "other", "logs", "lack", "due", "found", "e", "drawn", "told", "number", "k"]) (sc := defScope s_law) (by decide +kernel))
        (fun _ _ _ _ _ => (pg_name (i := 16) sc_law.nd rfl (.inl rfl))) (fun _ _ _ _ _ => pts_nil)
        (fun _ _ _ _ _ => (pe_ix (kixt (K := K) rfl) (pe_tup (pa_cons pe_int (pa_cons (pe_op op_mul (pe_ix (kixt (K := K) rfl) (pv 2) pe_int (fun _ _ => rfl)) (pe_op op_sub (C8.pe_c C__law_draw hr (by omega) rfl (pa_cons (pv 1) (pa_cons pe_int pa_nil))) pe_int)) (pa_cons (C8.pe_c C__law_draw hr (by omega) rfl (pa_cons (pv 1) (pa_cons (pe_ix (kixt (K := K) rfl) (pv 2) pe_int (fun _ _ => rfl)) pa_nil))) (pa_cons pe_int pa_nil))))) (C8.pe_c C__law_draw hr (by omega) rfl (pa_cons (pv 1) (pa_cons pe_int pa_nil))) (fun _ _ => rfl))))
      (C8.pss_cut (ps_set (i := 14) sc_law.nd rfl (.inl rfl) (pe_and (pe_cmpR op_gt (pe_callB (klen (K := K) rfl) (by rfl) B.len bt_len (pa_cons (pe_lc (own := [("number", 15)]) (g := gName 15) rfl sc_law.nd (kpil (K := K) rfl (pv 13)) (blkOk_by (N := ["script", "pool", "group", "made", "count", "one", "way", "other", "logs", "lack", "due", "found", "e", "drawn", "told", "number", "k"]) (sc := defScope s_law) (by decide +kernel))
        (fun _ _ _ _ _ => (pg_name (i := 15) sc_law.nd rfl (.inl rfl))) (fun _ _ _ _ _ => pts_one (pt_cmpR op_ne (pe_op op_mod (pe_callTy call_int1 (by rfl) B.int bt_int (pa_cons (pv 15) pa_nil)) (pe_ix (kixt (K := K) rfl) (pv 2) pe_int (fun _ _ => rfl))) pe_int (nomark _)))
        (fun _ _ _ _ _ => (pv 15))) pa_nil)) pe_int (nomark _)) (pe_one (pe_cmpR op_eq (C8.pe_c C__law_commit hr (by omega) rfl (pa_cons (pv 2) (pa_cons (pv 13) pa_nil))) pe_int (nomark _)))))
      (pss_one (ps_ret (C8.pe_c C__law_same hr (by omega) rfl (pa_cons (C8.pe_c C_is_relation hr (by omega) rfl (pa_cons (pv 3) (pa_cons (pv 13) pa_nil))) (pa_cons (pv 14) pa_nil))))))))))))))))))))))), ?_⟩
    walk_at "go"
    intro pl c H1 s1 n1 hP1
    have k1 := keep_same s1
    walk_at "go"
    intro v1 H2 a1 b1 hP2 k2
    have fl : 0 < (tab.filter (okRow (2 + v1) 7)).length := by
      have : v1 = 0 ∨ v1 = 1 ∨ v1 = 2 ∨ v1 = 3 ∨ v1 = 4 := by omega
      rcases this with rfl | rfl | rfl | rfl | rfl <;> decide
    walk_at "go"
    intro vg p q bs H3 gg hG hP3 k3
    obtain ⟨a, b, rfl, g1, g2⟩ := id hG
    have ok := gg.ok
    have row := row_of gg.tb
    have ln := gg.ln
    have q0 := row.q3
    have qm := row.qm
    have p3 := row.p3
    have pm := row.pm
    walk_at "go"
    intro x dx hx hdx hne
    have kx : ∀ y o, H3 y = some o → upd (upd H3 dx (.own x)) x (.ins C dx []) y = some o := fun y o e => by
      rw [upd_ne (ne_of_none e hx), upd_ne (ne_of_none e hdx)]
      exact e
    refine ⟨x, dx, b, p, q, bs, rfl, upd_same, SqL.of (kx _ _ g2), ok, fun H4 k4 G4 => ⟨rfl, ?_⟩⟩
    have s4 : Same H3 H4 := fun y o e => k4 y o (kx y o e) (fun z => by rw [z, hx] at e; cases e)
    have hP4 := hP3.same s4
    have hG4 := hG.keep (keep_same s4)
    have g1' := s4 _ _ g1
    have g2' := s4 _ _ g2
    clear kx k4
    walk_at "go"
    rw [List.length_map]
    refine ⟨by omega, by omega, fun v2 H5 a5 b5 hP5 k5 => ?_⟩
    have hG5 := hG4.keep k5
    have G5 := G4.keep k5
    have cn : 1 + v2 ≤ 1000 := by omega
    walk_at "go"
    refine ⟨pl, c, _, p, q, 1 + v2, bs, rfl, hP5, hG5, by omega, by omega, by omega, cn, fun nl ns1 H6 hl6 ln6 bd6 h6 hP6 k6 => ?_⟩
    have hG6 := hG5.keep k6
    have G6 := G5.keep k6
    walk_at "go"
    intro D1 hD1
    obtain ⟨u1, u2⟩ := hP6.ne hD1
    refine lc_list (xs := ns1.map V.int) (fun i H' => At (∃ ms : List Int, ms.length = i ∧ H' D1 = some (.lst (ms.map V.int)) ∧ PoolAt H' pl c ∧ Keep H6 H')) (.of ⟨[], rfl, upd_same, hP6.mut u1 u2, keep_new hD1⟩) (fun i H' _ hW => ?_) ?_ ?_
    · obtain ⟨ms, lm, hd, hP, kp⟩ := hW.out
      exact SqL.of (kp _ _ h6 (pool_ints ns1))
    · intro i y H' ey hW
      obtain ⟨ms, lm, hd, hP, kp⟩ := hW.out
      obtain ⟨m, hm, rfl⟩ := map_get ey
      have il : i < ns1.length := (List.getElem?_eq_some_iff.mp hm).1
      obtain ⟨_, _, e1, f1, f2⟩ := hG6.keep kp
      cases e1
      walk_at "go"
      intro v H8 a8 b8 hP8 k8
      have hd8 := k8 _ _ hd (pool_ints ms)
      have mb : -1100 ≤ q * v ∧ q * v ≤ 1100 := by
        have : v = 0 ∨ v = 1 := by omega
        rcases this with rfl | rfl <;> omega
      walk_at "go"
      refine ⟨_, hd8, len_size (by rw [List.length_map]; omega), .of ⟨ms ++ [m - q * v], by rw [List.length_append, lm]; rfl, ?_, hP8.mut u1 u2, keep_mut (kp.trans k8) hD1⟩⟩
      rw [upd_same, List.map_append]
      rfl
    · intro H7 hW
      obtain ⟨ms, lm, hd7, hP7, k7⟩ := hW.out
      rw [List.length_map] at lm
      have hG7 := hG6.keep k7
      have G7 := G6.keep k7
      walk_at "go"
      refine ⟨_, _, _, _, _, _, false, rfl, G7, by omega, by omega, by omega, SqL.of hd7, fun H8 s8 => ?_⟩
      have hP8 := hP7.same s8
      have hG8 := hG7.keep (keep_same s8)
      have G8 := G7.keep (keep_same s8)
      have hd8 := s8 _ _ hd7
      walk_at "go"
      refine ⟨_, _, _, _, _, _, rfl, hG8, by omega, by omega, by omega, by omega, hd8, by omega, by omega, fun H9 s9 => ?_⟩
      have hP9 := hP8.same s9
      have hG9 := hG8.keep (keep_same s9)
      have G9 := G8.keep (keep_same s9)
      have hd9 := s9 _ _ hd8
      walk_at "go"
      refine ⟨_, _, .int _, .int _, rfl, .int _, .int _, trivial, fun b hb => ?_⟩
      obtain rfl := hb.mpr rfl
      walk_at "go"
      intro way H10 a10 b10 hP10 k10
      have hG10 := hG9.keep k10
      have G10 := G9.keep k10
      have hd10 := k10 _ _ hd9 (pool_ints ms)
      walk_at "go"
      refine ⟨pl, c, _, p, q, 1 + v2, bs, rfl, hP10, hG10, by omega, by omega, by omega, cn, fun ol os H11 hl11 ln11 bd11 h11 hP11 k11 => ?_⟩
      have hG11 := hG10.keep k11
      have G11 := G10.keep k11
      have hd11 := k11 _ _ hd10 (pool_ints ms)
      walk_at "go"
      have o11 := off_of (Keep.refl H10) hl11
      obtain ⟨w1, w2⟩ := hP10.ne hl11
      refine ⟨fun σ' H' => At (∃ (y8 y9 : Option V) (os : List Int), σ' = [some (.ref sc), some (.ref pl), some (.ref a), some (.ref x), some (.int (1 + v2)), some (.ref D1), some (.int way), some (.ref ol), y8, y9, none, none, none, none, none, none, none] ∧ os.length = ns1.length ∧ H' ol = some (.lst (os.map V.int)) ∧ PoolAt H' pl c ∧ Keep H10 H'), ?_, ?_⟩
      · walk_at "go"
        refine iteD (fun c1 => ?_) (fun c1 => ?_)
        · obtain ⟨b0, br, e⟩ : ∃ b0 br, bs = b0 :: br := by
            cases bs with
            | nil =>
              rw [List.length_nil] at ln
              omega
            | cons b0 br => exact ⟨b0, br, rfl⟩
          subst e
          rw [List.length_cons] at ln b5
          walk_at "go"
          refine ⟨gg.sur, fun ll ls H12 hl12 ln12 bd12 h12 s12 => ?_⟩
          have hd12 := s12 _ _ hd11
          have ho12 := s12 _ _ h11
          have g12 := s12 _ _ (k11 _ _ (k10 _ _ (s9 _ _ (s8 _ _ (k7 _ _ (k6 _ _ (k5 _ _ g1' rfl) rfl) rfl))) rfl) rfl)
          walk_at "go"
          intro D2 hD2
          have inm : ∀ (zs : List Int) (j : Nat), j < zs.length → ∃ z : Int, (zs.map V.int)[j]? = some (.int z) := fun zs j hj => ⟨zs[j], by rw [List.getElem?_map, List.getElem?_eq_getElem hj]; rfl⟩
          refine lc_range (fun i H' => At (∃ zs : List Int, zs.length = i ∧ H' D2 = some (.lst (zs.map V.int)) ∧ Same H12 H')) (.of ⟨[], rfl, upd_same, same_new hD2⟩) ?_ ?_
          · intro i H' hi hW
            obtain ⟨zs, lz, hz, sz⟩ := hW.out
            obtain ⟨z1, e1⟩ := inm ms (1 + i) (by omega)
            obtain ⟨z2, e2⟩ := inm os (1 + i) (by omega)
            obtain ⟨z3, e3⟩ : ∃ z : Int, (ls.map V.int)[1 + i]? = some (.int z) ∧ 0 ≤ z ∧ z < q := by
              have hl : 1 + i < ls.length := by omega
              exact ⟨ls[1 + i], by rw [List.getElem?_map, List.getElem?_eq_getElem hl]; rfl, bd12 _ (List.getElem_mem hl)⟩
            obtain ⟨e3, e4, e5⟩ := e3
            have f1 := sz _ _ hd12
            have f2 := sz _ _ ho12
            have f3 := sz _ _ h12
            walk_at "go"
            refine ⟨_, _, _, _, rfl, rfl, SqL.of f1, at_of (j := 1 + i) (by omega) e1, ?_⟩
            walk_at "go"
            refine ⟨_, _, _, _, rfl, rfl, SqL.of f2, at_of (j := 1 + i) (by omega) e2, ?_⟩
            walk_at "go"
            refine ⟨_, _, _, _, rfl, rfl, SqL.of f3, at_of (j := 1 + i) (by omega) e3, ?_⟩
            walk_at "go"
            refine ⟨_, hz, len_size (by rw [List.length_map]; omega), .of ⟨zs ++ [(z1 - z2) * z3], by rw [List.length_append, lz]; rfl, ?_, same_mut sz hD2⟩⟩
            rw [upd_same, List.map_append]
            rfl
          · intro H13 hW
            obtain ⟨zs, lz, hz, sz⟩ := hW.out
            obtain ⟨z1, e1⟩ := inm ms 0 (by omega)
            have f1 := sz _ _ hd12
            have f2 := sz _ _ ho12
            have f3 := sz _ _ h12
            have f4 := sz _ _ g12
            have hP13 := hP11.same (s12.trans sz)
            have k13 := k11.trans (keep_same (s12.trans sz))
            walk_at "go"
            refine ⟨_, _, _, _, rfl, rfl, SqL.of f1, at_of (j := 0) rfl e1, ?_⟩
            walk_at "go"
            refine ⟨_, _, 0, 0, rfl, rfl, f2, ?_, .of ⟨_, _, os.set 0 ((z1 + zs.sum) % q), rfl, by rw [List.length_set]; omega, ?_, hP13.mut w1 w2, keep_off k13 o11⟩⟩
            · rw [List.length_map]
              unfold ixN
              rw [if_pos (by omega), if_pos (by omega)]
              rfl
            · rw [upd_same, List.map_set]
        · walk_at "go"
          exact .of ⟨none, none, os, rfl, by omega, h11, hP11, k11⟩
      · intro σ' H12 hW
        obtain ⟨y8, y9, os, rfl, lo, ho12, hP12, k12⟩ := hW.out
        have hG12 := hG10.keep k12
        have G12 := G10.keep k12
        obtain ⟨_, _, e12, g1c, g2c⟩ := id hG12
        cases e12
        have hd12 := k12 _ _ hd10 (pool_ints ms)
        refine ⟨fun σ' H' => At (∃ (y8 y9 : Option V) (l2 : Addr) (os : List Int), σ' = [some (.ref sc), some (.ref pl), some (.ref a), some (.ref x), some (.int (1 + v2)), some (.ref D1), some (.int way), some (.ref l2), y8, y9, none, none, none, none, none, none, none] ∧ os.length = ns1.length ∧ H' l2 = some (.lst (os.map V.int)) ∧ PoolAt H' pl c ∧ Keep H10 H'), ?_, ?_⟩
        · walk_at "go"
          refine iteD (fun c1 => ?_) (fun c1 => ?_)
          · walk_at "go"
            intro D3 hD3
            obtain ⟨w3, w4⟩ := hP12.ne hD3
            refine lc_list (xs := ms.map V.int) (fun i H' => At (∃ zs : List Int, zs.length = i ∧ H' D3 = some (.lst (zs.map V.int)) ∧ PoolAt H' pl c ∧ Keep H12 H')) (.of ⟨[], rfl, upd_same, hP12.mut w3 w4, keep_new hD3⟩) (fun i H' _ hW => ?_) ?_ ?_
            · obtain ⟨zs, lz, hz, hP, kz⟩ := hW.out
              exact SqL.of (kz _ _ hd12 (pool_ints ms))
            · intro i y H' ey hW
              obtain ⟨zs, lz, hz, hP, kz⟩ := hW.out
              obtain ⟨m, hm, rfl⟩ := map_get ey
              have il : i < ms.length := (List.getElem?_eq_some_iff.mp hm).1
              have f1 := kz _ _ g1c rfl
              walk_at "go"
              intro v H8 a8 b8 hP8 k8
              have hz8 := k8 _ _ hz (pool_ints zs)
              walk_at "go"
              refine ⟨_, hz8, len_size (by rw [List.length_map]; omega), .of ⟨zs ++ [m + q * v], by rw [List.length_append, lz]; rfl, ?_, hP8.mut w3 w4, keep_mut (kz.trans k8) hD3⟩⟩
              rw [upd_same, List.map_append]
              rfl
            · intro H7 hW
              obtain ⟨zs, lz, hz, hP, kz⟩ := hW.out
              rw [List.length_map] at lz
              walk_at "go"
              exact .of ⟨y8, y9, D3, zs, rfl, by omega, hz, hP, k12.trans kz⟩
          · walk_at "go"
            exact .of ⟨y8, y9, ol, os, rfl, lo, ho12, hP12, k12⟩
        · intro σ' H13 hW
          obtain ⟨y8, y9, l2, os, rfl, lo, ho13, hP13, k13⟩ := hW.out
          refine ⟨fun σ' H' => At (∃ (y8 y9 : Option V) (l2 : Addr) (os : List Int), σ' = [some (.ref sc), some (.ref pl), some (.ref a), some (.ref x), some (.int (1 + v2)), some (.ref D1), some (.int way), some (.ref l2), y8, y9, none, none, none, none, none, none, none] ∧ os.length ≤ ns1.length ∧ H' l2 = some (.lst (os.map V.int)) ∧ PoolAt H' pl c ∧ Keep H10 H'), ?_, ?_⟩
          · walk_at "go"
            refine iteD (fun c1 => ?_) (fun c1 => ?_)
            · walk_at "go"
              intro D4 hD4
              have k4 := keep_new (o := .lst (cutV (os.map V.int) (some 1) none)) hD4
              have e4 : upd H13 D4 (.lst (cutV (os.map V.int) (some 1) none)) D4 = some (.lst ((os.drop 1).map V.int)) := by
                rw [upd_same, cut1, List.map_drop]
              have p4 := hP13.same (same_new (o := .lst (cutV (os.map V.int) (some 1) none)) hD4)
              walk_at "go"
              exact .of ⟨y8, y9, D4, os.drop 1, rfl, by rw [List.length_drop]; omega, e4, p4, k13.trans k4⟩
            · walk_at "go"
              exact .of ⟨y8, y9, l2, os, rfl, by omega, ho13, hP13, k13⟩
          · clear hW lo ho13 hP13 k13 os l2
            intro σ' H14 hW
            obtain ⟨y8, y9, l2, os, rfl, lo, ho14, hP14, k14⟩ := hW.out
            have hd14 := k14 _ _ hd10 (pool_ints ms)
            refine ⟨fun σ' H' => At (∃ (y8 y9 : Option V) (l1 l2 : Addr) (xs ys : List Int), σ' = [some (.ref sc), some (.ref pl), some (.ref a), some (.ref x), some (.int (1 + v2)), some (.ref l1), some (.int way), some (.ref l2), y8, y9, none, none, none, none, none, none, none] ∧ xs.length ≤ ns1.length ∧ ys.length ≤ ns1.length ∧ H' l1 = some (.lst (xs.map V.int)) ∧ H' l2 = some (.lst (ys.map V.int)) ∧ (xs.length = ys.length → xs.length = ns1.length) ∧ PoolAt H' pl c ∧ Keep H10 H'), ?_, ?_⟩
            · walk_at "go"
              intro v H15 a15 b15 hP15 k15
              have hd15 := k15 _ _ hd14 (pool_ints ms)
              have ho15 := k15 _ _ ho14 (pool_ints os)
              walk_at "go"
              refine iteD (fun c1 => ?_) (fun c1 => ?_)
              · walk_at "go"
                intro T hT
                have sT := same_new (o := .tup [.ref l2, .ref D1]) hT
                refine ⟨T, _, rfl, SqT.of upd_same, rfl, ?_⟩
                walk_at "go"
                exact .of ⟨y8, y9, l2, D1, os, ms, rfl, lo, by omega, sT _ _ ho15, sT _ _ hd15, fun _ => by omega, hP15.same sT, (k14.trans k15).trans (keep_same sT)⟩
              · walk_at "go"
                exact .of ⟨y8, y9, D1, l2, ms, os, rfl, by omega, lo, hd15, ho15, fun _ => by omega, hP15, k14.trans k15⟩
            · intro σ' H16 hW
              obtain ⟨y8, y9, l1, l2, xs, ys, rfl, lx, ly, hx16, hy16, le16, hP16, k16⟩ := hW.out
              walk_at "go"
              refine ⟨fun σ' H' => At (∃ (y8 y9 : Option V) (dv : V), σ' = [some (.ref sc), some (.ref pl), some (.ref a), some (.ref x), some (.int (1 + v2)), some (.ref l1), some (.int way), some (.ref l2), y8, y9, some dv, none, none, none, none, none, none] ∧ H' l1 = some (.lst (xs.map V.int)) ∧ H' l2 = some (.lst (ys.map V.int)) ∧ PoolAt H' pl c ∧ Keep H10 H' ∧ ((dv = .non ∧ ¬ Shows p q bs xs ys) ∨ ∃ T, dv = .ref T ∧ H' T = some (.tup ((diffs q xs ys).map V.int)) ∧ Shows p q bs xs ys)), ?_, ?_⟩
              · have hG16 := hG10.keep k16
                walk_at "go"
                rw [List.length_map, List.length_map]
                have no : ∀ H', Same H16 H' → (¬ Shows p q bs xs ys) → At (∃ (z8 z9 : Option V) (dv : V), [some (.ref sc), some (.ref pl), some (.ref a), some (.ref x), some (.int (1 + v2)), some (.ref l1), some (.int way), some (.ref l2), y8, y9, some V.non, none, none, none, none, none, none] = [some (.ref sc), some (.ref pl), some (.ref a), some (.ref x), some (.int (1 + v2)), some (.ref l1), some (.int way), some (.ref l2), z8, z9, some dv, none, none, none, none, none, none] ∧ H' l1 = some (.lst (xs.map V.int)) ∧ H' l2 = some (.lst (ys.map V.int)) ∧ PoolAt H' pl c ∧ Keep H10 H' ∧ ((dv = .non ∧ ¬ Shows p q bs xs ys) ∨ ∃ T, dv = .ref T ∧ H' T = some (.tup ((diffs q xs ys).map V.int)) ∧ Shows p q bs xs ys)) := fun H' s h =>
                  .of ⟨y8, y9, .non, rfl, s _ _ hx16, s _ _ hy16, hP16.same s, k16.trans (keep_same s), .inl ⟨rfl, h⟩⟩
                refine iteD (fun c1 => ?_) (fun c1 => ?_)
                · have le : xs.length = ys.length := by
                    have := V.int.inj c1
                    omega
                  walk_at "go"
                  refine ⟨_, _, _, _, _, _, rfl, hG16, by omega, by omega, by omega, by omega, hx16, by omega, by omega, fun H17 s17 => ?_⟩
                  have hG17 := hG16.keep (keep_same s17)
                  have hx17 := s17 _ _ hx16
                  have hy17 := s17 _ _ hy16
                  walk_at "go"
                  refine ⟨_, _, _, _, _, _, rfl, hG17, by omega, by omega, by omega, by omega, hy17, by omega, by omega, fun H18 s18 => ?_⟩
                  have sm := s17.trans s18
                  walk_at "go"
                  refine iteD (fun c2 => ?_) (fun c2 => ?_)
                  · walk_at "go"
                    intro D5 hD5
                    obtain ⟨_, _, e18, f1, _⟩ := hG17.keep (keep_same s18)
                    cases e18
                    have hx18 := s18 _ _ hx17
                    have hy18 := s18 _ _ hy17
                    refine lc_range (fun i H' => At (H' D5 = some (.lst (((diffs q xs ys).take i).map V.int)) ∧ Same H18 H')) (.of ⟨upd_same, same_new hD5⟩) ?_ ?_
                    · intro i H' hi hW
                      obtain ⟨hz, sz⟩ := hW.out
                      have g1d := sz _ _ f1
                      have ix : i < xs.length := by
                        have := le16 le
                        omega
                      have iy : i < ys.length := by omega
                      have e1 : (xs.map V.int)[i]? = some (.int xs[i]) := by
                        rw [List.getElem?_map, List.getElem?_eq_getElem ix]
                        rfl
                      have e2 : (ys.map V.int)[i]? = some (.int ys[i]) := by
                        rw [List.getElem?_map, List.getElem?_eq_getElem iy]
                        rfl
                      walk_at "go"
                      refine ⟨_, _, _, _, rfl, rfl, SqL.of (sz _ _ hx18), at_of (Int.zero_add _) e1, ?_⟩
                      walk_at "go"
                      refine ⟨_, _, _, _, rfl, rfl, SqL.of (sz _ _ hy18), at_of (Int.zero_add _) e2, ?_⟩
                      walk_at "go"
                      refine ⟨_, hz, len_size (by rw [List.length_map, List.length_take]; omega), .of ⟨?_, same_mut sz hD5⟩⟩
                      rw [upd_same, take_map_snoc (show (diffs q xs ys)[i]? = some ((xs[i] - ys[i]) % q) from ?_)]
                      unfold diffs
                      rw [List.getElem?_zipWith, List.getElem?_eq_getElem ix, List.getElem?_eq_getElem iy]
                    · intro H19 hW
                      obtain ⟨hz, sz⟩ := hW.out
                      have dl : (diffs q xs ys).length = xs.length := by
                        unfold diffs
                        rw [List.length_zipWith]
                        omega
                      have ll := le16 le
                      rw [List.take_of_length_le (by omega)] at hz
                      have sm2 := sm.trans sz
                      walk_at "go"
                      refine ⟨D5, _, rfl, .inl ⟨SqL.of hz, fun T hT => ?_⟩⟩
                      have sT := same_new (o := .tup ((diffs q xs ys).map V.int)) hT
                      walk_at "go"
                      intro m hm hmx
                      walk_at "go"
                      have bdd : ∀ d ∈ diffs q xs ys, 0 ≤ d := fun d hd => by
                        unfold diffs at hd
                        obtain ⟨i, hi, e⟩ := List.mem_iff_getElem.mp hd
                        rw [List.getElem_zipWith] at e
                        rw [← e]
                        exact Int.emod_nonneg _ (by omega)
                      refine iteD (fun c3 => ?_) (fun c3 => ?_)
                      · walk_at "go"
                        refine no _ (sm2.trans sT) (fun z => ?_)
                        obtain ⟨d, hd, dz⟩ := z.2.2
                        have := hmx d hd
                        have := bdd d hd
                        have := V.int.inj c3
                        omega
                      · walk_at "go"
                        refine .of ⟨y8, y9, .ref T, rfl, sT _ _ (sm2 _ _ hx16), sT _ _ (sm2 _ _ hy16), hP16.same (sm2.trans sT), k16.trans (keep_same (sm2.trans sT)), .inr ⟨T, rfl, upd_same, le, V.int.inj c2, m, hm, fun z => c3 (congrArg V.int z)⟩⟩
                  · walk_at "go"
                    exact no _ sm (fun z => c2 (congrArg V.int z.2.1))
                · walk_at "go"
                  exact no _ (Same.refl _) (fun z => c1 (by rw [z.1]))
              · intro σ' H17 hW
                obtain ⟨y8, y9, dv, rfl, hx17, hy17, hP17, k17, hdv⟩ := hW.out
                have hG17 := hG10.keep k17
                have G17 := G10.keep k17
                have bdd : ∀ d ∈ diffs q xs ys, 0 ≤ d ∧ d < q := fun d hd => by
                  unfold diffs at hd
                  obtain ⟨i, hi, e⟩ := List.mem_iff_getElem.mp hd
                  rw [List.getElem_zipWith] at e
                  rw [← e]
                  exact emod_bd (by omega)
                have dl : (diffs q xs ys).length ≤ 1000 := by
                  unfold diffs
                  rw [List.length_zipWith]
                  omega
                refine ⟨fun σ' H' => At (∃ (dv fv : V), σ' = [some (.ref sc), some (.ref pl), some (.ref a), some (.ref x), some (.int (1 + v2)), some (.ref l1), some (.int way), some (.ref l2), y8, y9, some dv, some fv, none, none, none, none, none] ∧ PoolAt H' pl c ∧ Keep H10 H' ∧ ((dv = .non ∧ fv = .non) ∨ ∃ T U, dv = .ref T ∧ fv = .ref U ∧ H' T = some (.tup ((diffs q xs ys).map V.int)) ∧ H' U = some (.tup ((diffs q xs ys).map V.int)) ∧ Shows p q bs xs ys)), ?_, ?_⟩
                · walk_at "go"
                  refine ⟨x, l1, l2, p, q, bs, xs, ys, false, false, rfl, G17, by omega, by omega, by omega, SqL.of hx17, SqL.of hy17, by omega, by omega, fun H18 nsh s18 => ?_, fun H18 T sh s18 hT => ?_⟩
                  · refine ⟨true, G.te, fun _ ae hae => ?_, fun z => (by cases z)⟩
                    have dn : dv = .non := by
                      rcases hdv with z | ⟨T, _, _, sh⟩
                      · exact z.1
                      · exact absurd sh nsh
                    subst dn
                    walk_at "go"
                    refine ⟨CO, _, _, true, rfl, rfl, G.ex, rfl, .own CO, G.kO, ?_⟩
                    walk_at "go"
                    intro Tc hTc
                    refine ⟨CO, Tc, _, _, false, rfl, rfl, G.ex, rfl, upd_same, .cons (.own CG) (.cons (.own CQ) (.cons (.own CR) (.cons (.own CT) (.cons (.own CU) .nil)))), ?_, ?_⟩
                    · unfold PySem.W.kitAny PySem.W.kitAny PySem.W.kitAny PySem.W.kitAny PySem.W.kitAny PySem.W.kitAny
                      rw [G.kG, G.kQ, G.kR, G.kT, G.kU]
                    · walk_at "go"
                      exact .of ⟨.non, .non, rfl, hP17.same (s18.trans (same_new hTc)), k17.trans (keep_same (s18.trans (same_new hTc))), .inl ⟨rfl, rfl⟩⟩
                  · walk_at "go"
                    rcases hdv with z | ⟨U, rfl, hU, _⟩
                    · exact absurd sh z.2
                    · exact .of ⟨.ref U, .ref T, rfl, hP17.same s18, k17.trans (keep_same s18), .inr ⟨U, T, rfl, rfl, s18 _ _ hU, hT, sh⟩⟩
                · clear hW hdv hx17 hy17 hP17 k17 hG17 G17 dv
                  intro σ' H20 hW
                  obtain ⟨dv, fv, rfl, hP20, k20, hdv⟩ := hW.out
                  have hG20 := hG10.keep k20
                  have G20 := G10.keep k20
                  refine ⟨fun σ' H' => At (∃ (dv fv : V), σ' = [some (.ref sc), some (.ref pl), some (.ref a), some (.ref x), some (.int (1 + v2)), some (.ref l1), some (.int way), some (.ref l2), y8, y9, some dv, some fv, none, none, none, none, none] ∧ PoolAt H' pl c ∧ Keep H10 H'), ?_, ?_⟩
                  · rcases hdv with ⟨rfl, rfl⟩ | ⟨T, U, rfl, rfl, hT, hU, sh⟩
                    · walk_at "go"
                      refine ⟨_, _, .none, .none, rfl, .non, .non, trivial, fun b hb => ?_⟩
                      obtain rfl := hb.mpr rfl
                      walk_at "go"
                      exact .of ⟨.non, .non, rfl, hP20, k20⟩
                    · walk_at "go"
                      refine ⟨_, _, .tuple ((diffs q xs ys).map .int), .tuple ((diffs q xs ys).map .int), rfl, .tup hU (rp_ints _), .tup hT (rp_ints _), ⟨by rw [List.length_map]; omega, fun d hd => ?_⟩, fun b hb => ?_⟩
                      · obtain ⟨i, _, rfl⟩ := List.mem_map.mp hd
                        trivial
                      · obtain rfl := hb.mpr rfl
                        walk_at "go"
                        refine ⟨x, U, p, q, bs, diffs q xs ys, true, rfl, G20, by omega, by omega, by omega, SqT.of hU, by omega, fun H21 b s21 hb => ?_⟩
                        have bt : b = true := by
                          refine hb.mpr ⟨?_, prZ_diff (by omega) (by omega) sh.1 (fun e he => (ok.el e he).2.2.2) sh.2.1⟩
                          obtain ⟨d, hd, dz⟩ := sh.2.2
                          have := bdd d hd
                          exact ⟨d, hd, by rw [Int.emod_eq_of_lt this.1 this.2]; exact dz⟩
                        subst bt
                        walk_at "go"
                        exact .of ⟨.ref T, .ref U, rfl, hP20.same s21, k20.trans (keep_same s21)⟩
                  · clear hW hdv hP20 k20 hG20 G20 dv fv
                    intro σ' H22 hW
                    obtain ⟨dv, fv, rfl, hP22, k22⟩ := hW.out
                    have hG22 := hG10.keep k22
                    have G22 := G10.keep k22
                    obtain ⟨_, _, e22, f1, f2⟩ := id hG22
                    cases e22
                    refine ⟨fun σ' H' => At (∃ (D6 : Addr) (zs : List Int), σ' = [some (.ref sc), some (.ref pl), some (.ref a), some (.ref x), some (.int (1 + v2)), some (.ref l1), some (.int way), some (.ref l2), y8, y9, some dv, some fv, none, some (.ref D6), none, none, none] ∧ (zs.length : Int) = 1 + v2 ∧ H' D6 = some (.lst (zs.map V.int)) ∧ PoolAt H' pl c ∧ Keep H22 H'), ?_, ?_⟩
                    · walk_at "go"
                      intro D6 hD6
                      obtain ⟨w5, w6⟩ := hP22.ne hD6
                      refine lc_range (fun i H' => At (∃ zs : List Int, zs.length = i ∧ H' D6 = some (.lst (zs.map V.int)) ∧ PoolAt H' pl c ∧ Keep H22 H')) (.of ⟨[], rfl, upd_same, hP22.mut w5 w6, keep_new hD6⟩) ?_ ?_
                      · intro i H' hi hW
                        obtain ⟨zs, lz, hz, hP, kz⟩ := hW.out
                        have f1' := kz _ _ f1 rfl
                        walk_at "go"
                        intro va Ha va0 va1 hPa ka
                        have g1a := ka _ _ f1' rfl
                        walk_at "go"
                        intro vb Hb vb0 vb1 hPb kb
                        walk_at "go"
                        intro Tv hTv
                        have sTv := same_new (o := .tup [.int 0, .int (q * (va - 4)), .int vb, .int 0]) hTv
                        have hPc := hPb.same sTv
                        have tv : upd Hb Tv (.tup [.int 0, .int (q * (va - 4)), .int vb, .int 0]) Tv = some (.tup [.int 0, .int (q * (va - 4)), .int vb, .int 0]) := upd_same
                        generalize upd Hb Tv (.tup [.int 0, .int (q * (va - 4)), .int vb, .int 0]) = Hc at hPc tv sTv ⊢
                        walk_at "go"
                        intro vd Hd vd0 vd1 hPd kd
                        have tv2 := kd _ _ tv rfl
                        obtain ⟨z, ez⟩ : ∃ z : Int, atI [V.int 0, .int (q * (va - 4)), .int vb, .int 0] vd = some (.int z) := by
                          have : vd = 0 ∨ vd = 1 ∨ vd = 2 ∨ vd = 3 := by omega
                          rcases this with rfl | rfl | rfl | rfl
                          · exact ⟨_, rfl⟩
                          · exact ⟨_, rfl⟩
                          · exact ⟨_, rfl⟩
                          · exact ⟨_, rfl⟩
                        have kk := ((kz.trans ka).trans kb).trans ((keep_same sTv).trans kd)
                        have hzd := ((ka.trans kb).trans ((keep_same sTv).trans kd)) _ _ hz (pool_ints zs)
                        refine ⟨_, _, _, _, rfl, rfl, SqT.of tv2, ez, ?_⟩
                        walk_at "go"
                        refine ⟨_, hzd, len_size (by rw [List.length_map]; omega), .of ⟨zs ++ [z], by rw [List.length_append, lz]; rfl, ?_, hPd.mut w5 w6, keep_mut kk hD6⟩⟩
                        rw [upd_same, List.map_append]
                        rfl
                      · intro H23 hW
                        obtain ⟨zs, lz, hz, hP, kz⟩ := hW.out
                        walk_at "go"
                        exact .of ⟨D6, zs, rfl, by omega, hz, hP, kz⟩
                    · intro σ' H23 hW
                      obtain ⟨D6, zs, rfl, lz, hz, hP, kz⟩ := hW.out
                      have zl : zs.length ≤ 1000 := by omega
                      have zb : zs.length ≤ bs.length := by omega
                      have q0' : 0 < q := by omega
                      have q1' : q < 2147483648 := by omega
                      have p0' : 1 < p := by omega
                      have p1' : p < 2147483648 := by omega
                      have bl' : bs.length ≤ 1000 := by omega
                      have hG23 := hG22.keep kz
                      have G23 := G22.keep kz
                      obtain ⟨_, _, e23, f3, f4⟩ := id hG23
                      cases e23
                      clear hW le16 bdd dl lx ly
                      refine ⟨fun σ' H' => At (∃ t : Bool, σ' = [some (.ref sc), some (.ref pl), some (.ref a), some (.ref x), some (.int (1 + v2)), some (.ref l1), some (.int way), some (.ref l2), y8, y9, some dv, some fv, none, some (.ref D6), some (.bl t), none, none] ∧ Same H23 H' ∧ (t = true ↔ (∃ e ∈ zs, e % q ≠ 0) ∧ prZ p q (bs.zip zs) = 1)), ?_, ?_⟩
                      · walk_at "go"
                        intro D7 hD7
                        refine lc_list (xs := zs.map V.int) (fun i H' => At (∃ ys : List Int, H' D7 = some (.lst (ys.map V.int)) ∧ ys.length ≤ i ∧ (0 < ys.length ↔ ∃ e ∈ zs.take i, e % q ≠ 0) ∧ Same H23 H')) (.of ⟨[], upd_same, Nat.le_refl _, ⟨fun z => absurd z (Nat.lt_irrefl _), fun ⟨e, he, _⟩ => (by cases he)⟩, same_new hD7⟩) (fun i H' _ hW => ?_) ?_ ?_
                        · obtain ⟨_, _, _, _, sm⟩ := hW.out
                          exact SqL.of (sm _ _ hz)
                        · intro i y H' ey hW
                          obtain ⟨ys, hy, ly, iff, sm⟩ := hW.out
                          obtain ⟨m, hm, rfl⟩ := map_get ey
                          have il : i < zs.length := (List.getElem?_eq_some_iff.mp hm).1
                          have f5 := sm _ _ f3
                          have snoc : zs.take (i + 1) = zs.take i ++ [m] := by rw [List.take_add_one, hm]; rfl
                          walk_at "go"
                          refine iteN (fun c1 => ?_) (fun c1 => ?_)
                          · walk_at "go"
                            refine ⟨_, hy, len_size (by rw [List.length_map]; omega), .of ⟨ys ++ [m], ?_, by rw [List.length_append]; exact Nat.succ_le_succ ly, ?_, same_mut sm hD7⟩⟩
                            · rw [upd_same, List.map_append]
                              rfl
                            · rw [snoc, List.length_append]
                              exact ⟨fun _ => ⟨m, List.mem_append.mpr (.inr List.mem_cons_self), fun z => c1 (congrArg V.int z)⟩, fun _ => Nat.succ_pos _⟩
                          · refine .of ⟨ys, hy, by omega, ?_, sm⟩
                            rw [snoc, iff]
                            refine ⟨fun ⟨e, he, ne⟩ => ⟨e, List.mem_append.mpr (.inl he), ne⟩, fun ⟨e, he, ne⟩ => ?_⟩
                            rcases List.mem_append.mp he with he | he
                            · exact ⟨e, he, ne⟩
                            · rw [List.mem_singleton.mp he] at ne
                              exact absurd (V.int.inj c1) ne
                        · intro H24 hW
                          obtain ⟨ys, hy, ly, iff, sm⟩ := hW.out
                          rw [List.length_map, List.take_length] at iff
                          have hG24 := hG23.keep (keep_same sm)
                          have G24 := G23.keep (keep_same sm)
                          have hz24 := sm _ _ hz
                          walk_at "go"
                          rw [List.length_map]
                          refine iteD (fun c1 => ?_) (fun c1 => ?_)
                          · walk_at "go"
                            refine ⟨_, _, _, _, _, _, rfl, hG24, q0', q1', p0', p1', hz24, zb, bl', fun H25 s25 => ?_⟩
                            walk_at "go"
                            refine .of ⟨_, rfl, sm.trans s25, ?_⟩
                            rw [decide_eq_true_eq]
                            exact ⟨fun e => ⟨iff.mp (by omega), V.int.inj e⟩, fun e => congrArg V.int e.2⟩
                          · walk_at "go"
                            refine .of ⟨_, rfl, sm, ⟨fun e => (by cases e), fun e => ?_⟩⟩
                            have := iff.mpr e.1
                            omega
                      · intro σ' H25 hW
                        obtain ⟨t, rfl, sm, ht⟩ := hW.out
                        have G25 := G23.keep (keep_same sm)
                        have hz25 := sm _ _ hz
                        walk_at "go"
                        refine ⟨x, D6, p, q, bs, zs, false, rfl, G25, q0', p0', p1', SqL.of hz25, zl, fun H26 b s26 hb => ?_⟩
                        have bt : b = t := by
                          cases b <;> cases t
                          · rfl
                          · exact absurd (hb.mpr (ht.mp rfl)) Bool.false_ne_true
                          · exact absurd (ht.mpr (hb.mp rfl)) Bool.false_ne_true
                          · rfl
                        subst bt
                        walk_at "go"
                        refine ⟨_, _, .bool b, .bool b, rfl, .bl _, .bl _, trivial, fun b2 hb2 => ?_⟩
                        obtain rfl := hb2.mpr rfl
                        exact z _
end

/-- an error of the class at S is what «except D» names -/
theorem exm_of {K : PySem.W.Frag} {S D : Addr} (h1 : PySem.W.subIn K (.ref D) (.type "BaseException") = some true) (h2 : PySem.W.isClsIn K D = true) (h3 : PySem.W.typeIn K (.ref D) = some (.type "type")) (h4 : PySem.W.subIn K (.ref S) (.ref D) = some true) :
    PySem.W.exmOne K (.ref S) (.ref D) = some true := by
  have e1 : (PySem.W.subIn K (.ref D) (.type "BaseException") == some true) = true := by rw [h1] <;> rfl
  have h2' : (PySem.W.clsIn K D).isSome = true := h2
  have e2 : ((PySem.W.clsIn K D).isSome && PySem.W.typeIn K (.ref D) == some (.type "type")) = true := by rw [h2', h3] <;> rfl
  show (if (PySem.W.subIn K (.ref D) (.type "BaseException") == some true) = true then (if ((PySem.W.clsIn K D).isSome && PySem.W.typeIn K (.ref D) == some (.type "type")) = true then PySem.W.subIn K (.ref S) (.ref D) else none) else none) = some true
  rw [if_pos e1, if_pos e2]
  exact h4

theorem beq_ref {a b : Addr} : (Value.ref a == Value.ref b) = decide (a = b) := by
  by_cases h : a = b
  · subst h
    rw [decide_eq_true rfl]
    exact beq_self_eq_true (Value.ref a)
  · rw [decide_eq_false h]
    exact beq_eq_false_iff_ne.mpr fun z => h (by cases z; rfl)
theorem kit_self {K : PySem.W.Frag} {S : Addr} : PySem.W.kitOne K (.ref S) (.ref S) = some true := by
  unfold PySem.W.kitOne
  rw [beq_ref, decide_eq_true rfl]
  rfl
theorem kit_no {K : PySem.W.Frag} {S D : Addr} (h1 : PySem.W.isClsIn K D = true) (h2 : PySem.W.typeIn K (.ref D) = some (.type "type")) (h3 : PySem.W.subIn K (.ref S) (.ref D) = some false) (h4 : PySem.W.subIn K (.ref S) (.ref S) = some true) :
    PySem.W.kitOne K (.ref S) (.ref D) = some false := by
  have ne : ¬ S = D := fun z => by
    subst z
    rw [h3] at h4
    cases h4
  have h1' : (PySem.W.clsIn K D).isSome = true := h1
  have e2 : ((PySem.W.clsIn K D).isSome && PySem.W.typeIn K (.ref D) == some (.type "type")) = true := by rw [h1', h2] <;> rfl
  unfold PySem.W.kitOne PySem.W.kitCls
  rw [beq_ref, decide_eq_false ne, if_neg Bool.false_ne_true]
  show (if ((PySem.W.clsIn K D).isSome && PySem.W.typeIn K (.ref D) == some (.type "type")) = true then PySem.W.subIn K (.ref S) (.ref D) else none) = some false
  rw [if_pos e2]
  exact h3

/-! ### the end -/
theorem all_mk {l : PySem.W.OpenLaw} {w : World} {K : PySem.W.Frag} {h : Heap} {mg : Str → Option Value} {fa f0 f1 f2 f3 f4 f5 f6 f7 f8 f9 f10 f11 f12 f13 f14 f15 f16 f17 f18 f19 f20 f21 : Addr} {C CO CV CG CQ CR CT CU : Addr} {tS tL tF tM : Tok} (X : K.In h) (G : h.Ns mainGlobals mg) (hfa : mg "law" = some (.ref fa))
    {od0 an0 od1 an1 od2 an2 od3 an3 od4 an4 od5 an5 od6 an6 od7 an7 od8 an8 od9 an9 od10 an10 od11 an11 od12 an12 od13 an13 od14 an14 od15 an15 od16 an16 od17 an17 od18 an18 od19 an19 od20 an20 od21 an21 : Option Addr} {sl0 sl1 sl2 sl3 sl4 sl5 sl6 sl7 sl8 sl9 sl10 sl11 sl12 sl13 sl14 sl15 sl16 sl17 sl18 sl19 sl20 sl21 : Array (Option Value)} {oc0 kV0 dc0 pm0 cd0 ct0 oc1 kV1 dc1 pm1 cd1 ct1 oc2 kV2 dc2 pm2 cd2 ct2 oc3 kV3 dc3 pm3 cd3 ct3 oc4 kV4 dc4 pm4 cd4 ct4 oc5 kV5 dc5 pm5 cd5 ct5 oc6 kV6 dc6 pm6 cd6 ct6 oc7 kV7 dc7 pm7 cd7 ct7 oc8 kV8 dc8 pm8 cd8 ct8 oc9 kV9 dc9 pm9 cd9 ct9 oc10 kV10 dc10 pm10 cd10 ct10 oc11 kV11 dc11 pm11 cd11 ct11 oc12 kV12 dc12 pm12 cd12 ct12 oc13 kV13 dc13 pm13 cd13 ct13 oc14 kV14 dc14 pm14 cd14 ct14 oc15 kV15 dc15 pm15 cd15 ct15 oc16 kV16 dc16 pm16 cd16 ct16 oc17 kV17 dc17 pm17 cd17 ct17 oc18 kV18 dc18 pm18 cd18 ct18 oc19 kV19 dc19 pm19 cd19 ct19 oc20 kV20 dc20 pm20 cd20 ct20 oc21 kV21 dc21 pm21 cd21 ct21 : Value}
    (a_C : PySem.W.nsIn K mainGlobals "Group" = some (some (.ref C)))
    (pg_C : PySem.W.plainGet K C Str.empty = true)
    (hd_C : PySem.W.hasDictIn K C = true)
    (po_C : PySem.W.plainOver K C = true)
    (sa_C : PySem.W.findIn K (.ref C) "__setattr__" = some (some (.builtin "object.__setattr__")))
    (mk_C : PySem.W.makesIn K C = true)
    (kc_C : PySem.W.keepIn K (.ref C) = true)
    (nP : PySem.W.findIn K (.ref C) "p" = some none)
    (nQ : PySem.W.findIn K (.ref C) "q" = some none)
    (nB : PySem.W.findIn K (.ref C) "bases" = some none)
    (gS : PySem.W.nsIn K mainGlobals "SMALLEST_P" = some (some (.int 3 tS)))
    (gL : PySem.W.nsIn K mainGlobals "LARGEST_P" = some (some (.int 1000000 tL)))
    (gF : PySem.W.nsIn K mainGlobals "FEWEST_BASES" = some (some (.int 2 tF)))
    (gM : PySem.W.nsIn K mainGlobals "MOST_BASES" = some (some (.int 12 tM)))
    (a_CV : PySem.W.nsIn K mainGlobals "VouchError" = some (some (.ref CV)))
    (a_CO : PySem.W.nsIn K mainGlobals "BadOpening" = some (some (.ref CO)))
    (a_CG : PySem.W.nsIn K mainGlobals "BadGroup" = some (some (.ref CG)))
    (a_CQ : PySem.W.nsIn K mainGlobals "BadQuestion" = some (some (.ref CQ)))
    (a_CR : PySem.W.nsIn K mainGlobals "BadRequest" = some (some (.ref CR)))
    (a_CT : PySem.W.nsIn K mainGlobals "BadText" = some (some (.ref CT)))
    (a_CU : PySem.W.nsIn K mainGlobals "BadTurn" = some (some (.ref CU)))
    (xF : PySem.W.excIn K CO [.type "ValueError", .type "Exception", .type "BaseException", .type "object"] "ValueError.__new__" = true)
    (kF : PySem.W.keepIn K (.ref CO) = true)
    (bF : PySem.W.subIn K (.ref CO) (.type "BaseException") = some true)
    (tF2 : PySem.W.typeIn K (.ref CO) = some (.type "type"))
    (bV : PySem.W.subIn K (.ref CV) (.type "BaseException") = some true)
    (iV : PySem.W.isClsIn K CV = true)
    (tV : PySem.W.typeIn K (.ref CV) = some (.type "type"))
    (sV : PySem.W.subIn K (.ref CO) (.ref CV) = some true)
    (hg : PySem.W.findIn K (.ref CO) "__getattribute__" = some (some (.builtin "BaseException.__getattribute__")))
    (hk : PySem.W.findIn K (.ref CO) "__getattr__" = some none)
    (hd2 : PySem.W.hasDictIn K CO = true)
    (ha : PySem.W.findIn K (.ref CO) "__class__" = some (some (.builtin "object.__class__")))
    (hn : PySem.W.specialIn K (.builtin "object.__class__") "__get__" = some (some (.builtin "getset_descriptor.__get__")))
    (ht : PySem.W.takesIn K (.builtin "object.__class__") = some true)
    (hm : PySem.W.mroIn K CO (.type "object") = some true)
    (sO : PySem.W.subIn K (.ref CO) (.ref CO) = some true)
    (iG : PySem.W.isClsIn K CG = true)
    (tG : PySem.W.typeIn K (.ref CG) = some (.type "type"))
    (sG : PySem.W.subIn K (.ref CO) (.ref CG) = some false)
    (iQ : PySem.W.isClsIn K CQ = true)
    (tQ : PySem.W.typeIn K (.ref CQ) = some (.type "type"))
    (sQ : PySem.W.subIn K (.ref CO) (.ref CQ) = some false)
    (iR : PySem.W.isClsIn K CR = true)
    (tR : PySem.W.typeIn K (.ref CR) = some (.type "type"))
    (sR : PySem.W.subIn K (.ref CO) (.ref CR) = some false)
    (iT : PySem.W.isClsIn K CT = true)
    (tT : PySem.W.typeIn K (.ref CT) = some (.type "type"))
    (sT : PySem.W.subIn K (.ref CO) (.ref CT) = some false)
    (iU : PySem.W.isClsIn K CU = true)
    (tU : PySem.W.typeIn K (.ref CU) = some (.type "type"))
    (sU : PySem.W.subIn K (.ref CO) (.ref CU) = some false)
    (a0 : PySem.W.nsIn K mainGlobals "power" = some (some (.ref f0)))
    (l0 : K.lookup f0 = some ⟨oc0, od0, .func (PySem.W.fnOf "power" "power" (defArgs s_power) (defBody s_power) (defScope s_power) .none kV0 dc0 pm0 an0 cd0 ct0), sl0⟩) (c0 : PySem.W.codeIn K cd0 "power" = true) (k0 : PySem.W.keepIn K (.ref f0) = true)
    (a1 : PySem.W.nsIn K mainGlobals "is_prime" = some (some (.ref f1)))
    (l1 : K.lookup f1 = some ⟨oc1, od1, .func (PySem.W.fnOf "is_prime" "is_prime" (defArgs s_is_prime) (defBody s_is_prime) (defScope s_is_prime) .none kV1 dc1 pm1 an1 cd1 ct1), sl1⟩) (c1 : PySem.W.codeIn K cd1 "is_prime" = true) (k1 : PySem.W.keepIn K (.ref f1) = true)
    (a2 : PySem.W.nsIn K mainGlobals "_is_root" = some (some (.ref f2)))
    (l2 : K.lookup f2 = some ⟨oc2, od2, .func (PySem.W.fnOf "_is_root" "_is_root" (defArgs s__is_root) (defBody s__is_root) (defScope s__is_root) .none kV2 dc2 pm2 an2 cd2 ct2), sl2⟩) (c2 : PySem.W.codeIn K cd2 "_is_root" = true) (k2 : PySem.W.keepIn K (.ref f2) = true)
    (a3 : PySem.W.nsIn K mainGlobals "_check_primes" = some (some (.ref f3)))
    (l3 : K.lookup f3 = some ⟨oc3, od3, .func (PySem.W.fnOf "_check_primes" "_check_primes" (defArgs s__check_primes) (defBody s__check_primes) (defScope s__check_primes) .none kV3 dc3 pm3 an3 cd3 ct3), sl3⟩) (c3 : PySem.W.codeIn K cd3 "_check_primes" = true) (k3 : PySem.W.keepIn K (.ref f3) = true)
    (a4 : PySem.W.nsIn K mainGlobals "_check_bases" = some (some (.ref f4)))
    (l4 : K.lookup f4 = some ⟨oc4, od4, .func (PySem.W.fnOf "_check_bases" "_check_bases" (defArgs s__check_bases) (defBody s__check_bases) (defScope s__check_bases) .none kV4 dc4 pm4 an4 cd4 ct4), sl4⟩) (c4 : PySem.W.codeIn K cd4 "_check_bases" = true) (k4 : PySem.W.keepIn K (.ref f4) = true)
    (a5 : PySem.W.findIn K (.ref C) "__init__" = some (some (.ref f5))) (i5 : PySem.W.isFn K (.ref f5) = true)
    (l5 : K.lookup f5 = some ⟨oc5, od5, .func (PySem.W.fnOf "__init__" "Group.__init__" (defArgs s_Group___init__) (defBody s_Group___init__) (defScope s_Group___init__) .none kV5 dc5 pm5 an5 cd5 ct5), sl5⟩) (c5 : PySem.W.codeIn K cd5 "Group.__init__" = true) (k5 : PySem.W.keepIn K (.ref f5) = true)
    (a6 : PySem.W.findIn K (.ref C) "raised" = some (some (.ref f6))) (i6 : PySem.W.isFn K (.ref f6) = true)
    (l6 : K.lookup f6 = some ⟨oc6, od6, .func (PySem.W.fnOf "raised" "Group.raised" (defArgs s_Group_raised) (defBody s_Group_raised) (defScope s_Group_raised) .none kV6 dc6 pm6 an6 cd6 ct6), sl6⟩) (c6 : PySem.W.codeIn K cd6 "Group.raised" = true) (k6 : PySem.W.keepIn K (.ref f6) = true)
    (a7 : PySem.W.findIn K (.ref C) "product" = some (some (.ref f7))) (i7 : PySem.W.isFn K (.ref f7) = true)
    (l7 : K.lookup f7 = some ⟨oc7, od7, .func (PySem.W.fnOf "product" "Group.product" (defArgs s_Group_product) (defBody s_Group_product) (defScope s_Group_product) .none kV7 dc7 pm7 an7 cd7 ct7), sl7⟩) (c7 : PySem.W.codeIn K cd7 "Group.product" = true) (k7 : PySem.W.keepIn K (.ref f7) = true)
    (a8 : PySem.W.nsIn K mainGlobals "commit" = some (some (.ref f8)))
    (l8 : K.lookup f8 = some ⟨oc8, od8, .func (PySem.W.fnOf "commit" "commit" (defArgs s_commit) (defBody s_commit) (defScope s_commit) .none kV8 dc8 pm8 an8 cd8 ct8), sl8⟩) (c8 : PySem.W.codeIn K cd8 "commit" = true) (k8 : PySem.W.keepIn K (.ref f8) = true)
    (a9 : PySem.W.nsIn K mainGlobals "is_relation" = some (some (.ref f9)))
    (l9 : K.lookup f9 = some ⟨oc9, od9, .func (PySem.W.fnOf "is_relation" "is_relation" (defArgs s_is_relation) (defBody s_is_relation) (defScope s_is_relation) .none kV9 dc9 pm9 an9 cd9 ct9), sl9⟩) (c9 : PySem.W.codeIn K cd9 "is_relation" = true) (k9 : PySem.W.keepIn K (.ref f9) = true)
    (a10 : PySem.W.nsIn K mainGlobals "relation" = some (some (.ref f10)))
    (l10 : K.lookup f10 = some ⟨oc10, od10, .func (PySem.W.fnOf "relation" "relation" (defArgs s_relation) (defBody s_relation) (defScope s_relation) .none kV10 dc10 pm10 an10 cd10 ct10), sl10⟩) (c10 : PySem.W.codeIn K cd10 "relation" = true) (k10 : PySem.W.keepIn K (.ref f10) = true)
    (a11 : PySem.W.nsIn K mainGlobals "_law_pool" = some (some (.ref f11)))
    (l11 : K.lookup f11 = some ⟨oc11, od11, .func (PySem.W.fnOf "_law_pool" "_law_pool" (defArgs s__law_pool) (defBody s__law_pool) (defScope s__law_pool) .none kV11 dc11 pm11 an11 cd11 ct11), sl11⟩) (c11 : PySem.W.codeIn K cd11 "_law_pool" = true) (k11 : PySem.W.keepIn K (.ref f11) = true)
    (a12 : PySem.W.nsIn K mainGlobals "_law_draw" = some (some (.ref f12)))
    (l12 : K.lookup f12 = some ⟨oc12, od12, .func (PySem.W.fnOf "_law_draw" "_law_draw" (defArgs s__law_draw) (defBody s__law_draw) (defScope s__law_draw) .none kV12 dc12 pm12 an12 cd12 ct12), sl12⟩) (c12 : PySem.W.codeIn K cd12 "_law_draw" = true) (k12 : PySem.W.keepIn K (.ref f12) = true)
    (a13 : PySem.W.nsIn K mainGlobals "_law_same" = some (some (.ref f13)))
    (l13 : K.lookup f13 = some ⟨oc13, od13, .func (PySem.W.fnOf "_law_same" "_law_same" (defArgs s__law_same) (defBody s__law_same) (defScope s__law_same) .none kV13 dc13 pm13 an13 cd13 ct13), sl13⟩) (c13 : PySem.W.codeIn K cd13 "_law_same" = true) (k13 : PySem.W.keepIn K (.ref f13) = true)
    (a14 : PySem.W.nsIn K mainGlobals "_law_power" = some (some (.ref f14)))
    (l14 : K.lookup f14 = some ⟨oc14, od14, .func (PySem.W.fnOf "_law_power" "_law_power" (defArgs s__law_power) (defBody s__law_power) (defScope s__law_power) .none kV14 dc14 pm14 an14 cd14 ct14), sl14⟩) (c14 : PySem.W.codeIn K cd14 "_law_power" = true) (k14 : PySem.W.keepIn K (.ref f14) = true)
    (a15 : PySem.W.nsIn K mainGlobals "_law_raised" = some (some (.ref f15)))
    (l15 : K.lookup f15 = some ⟨oc15, od15, .func (PySem.W.fnOf "_law_raised" "_law_raised" (defArgs s__law_raised) (defBody s__law_raised) (defScope s__law_raised) .none kV15 dc15 pm15 an15 cd15 ct15), sl15⟩) (c15 : PySem.W.codeIn K cd15 "_law_raised" = true) (k15 : PySem.W.keepIn K (.ref f15) = true)
    (a16 : PySem.W.nsIn K mainGlobals "_law_product" = some (some (.ref f16)))
    (l16 : K.lookup f16 = some ⟨oc16, od16, .func (PySem.W.fnOf "_law_product" "_law_product" (defArgs s__law_product) (defBody s__law_product) (defScope s__law_product) .none kV16 dc16 pm16 an16 cd16 ct16), sl16⟩) (c16 : PySem.W.codeIn K cd16 "_law_product" = true) (k16 : PySem.W.keepIn K (.ref f16) = true)
    (a17 : PySem.W.nsIn K mainGlobals "_law_commit" = some (some (.ref f17)))
    (l17 : K.lookup f17 = some ⟨oc17, od17, .func (PySem.W.fnOf "_law_commit" "_law_commit" (defArgs s__law_commit) (defBody s__law_commit) (defScope s__law_commit) .none kV17 dc17 pm17 an17 cd17 ct17), sl17⟩) (c17 : PySem.W.codeIn K cd17 "_law_commit" = true) (k17 : PySem.W.keepIn K (.ref f17) = true)
    (a18 : PySem.W.nsIn K mainGlobals "_law_group" = some (some (.ref f18)))
    (l18 : K.lookup f18 = some ⟨oc18, od18, .func (PySem.W.fnOf "_law_group" "_law_group" (defArgs s__law_group) (defBody s__law_group) (defScope s__law_group) .none kV18 dc18 pm18 an18 cd18 ct18), sl18⟩) (c18 : PySem.W.codeIn K cd18 "_law_group" = true) (k18 : PySem.W.keepIn K (.ref f18) = true)
    (a19 : PySem.W.nsIn K mainGlobals "_law_numbers" = some (some (.ref f19)))
    (l19 : K.lookup f19 = some ⟨oc19, od19, .func (PySem.W.fnOf "_law_numbers" "_law_numbers" (defArgs s__law_numbers) (defBody s__law_numbers) (defScope s__law_numbers) .none kV19 dc19 pm19 an19 cd19 ct19), sl19⟩) (c19 : PySem.W.codeIn K cd19 "_law_numbers" = true) (k19 : PySem.W.keepIn K (.ref f19) = true)
    (a20 : PySem.W.nsIn K mainGlobals "_law_logs" = some (some (.ref f20)))
    (l20 : K.lookup f20 = some ⟨oc20, od20, .func (PySem.W.fnOf "_law_logs" "_law_logs" (defArgs s__law_logs) (defBody s__law_logs) (defScope s__law_logs) .none kV20 dc20 pm20 an20 cd20 ct20), sl20⟩) (c20 : PySem.W.codeIn K cd20 "_law_logs" = true) (k20 : PySem.W.keepIn K (.ref f20) = true)
    (a21 : PySem.W.nsIn K mainGlobals "law" = some (some (.ref f21)))
    (l21 : K.lookup f21 = some ⟨oc21, od21, .func (PySem.W.fnOf "law" "law" (defArgs s_law) (defBody s_law) (defScope s_law) .none kV21 dc21 pm21 an21 cd21 ct21), sl21⟩) (c21 : PySem.W.codeIn K cd21 "law" = true) (k21 : PySem.W.keepIn K (.ref f21) = true)
    (z_isinstance : PySem.W.nsIn K mainGlobals "isinstance" = some none)
    (z_len : PySem.W.nsIn K mainGlobals "len" = some none)
    (z_sum : PySem.W.nsIn K mainGlobals "sum" = some none)
    (z_max : PySem.W.nsIn K mainGlobals "max" = some none)
    (z_min : PySem.W.nsIn K mainGlobals "min" = some none)
    (z_abs : PySem.W.nsIn K mainGlobals "abs" = some none)
    (z_any : PySem.W.nsIn K mainGlobals "any" = some none)
    (z_all : PySem.W.nsIn K mainGlobals "all" = some none)
    (z_sorted : PySem.W.nsIn K mainGlobals "sorted" = some none)
    (z_int : PySem.W.nsIn K mainGlobals "int" = some none)
    (z_bool : PySem.W.nsIn K mainGlobals "bool" = some none)
    (z_str : PySem.W.nsIn K mainGlobals "str" = some none)
    (z_list : PySem.W.nsIn K mainGlobals "list" = some none)
    (z_tuple : PySem.W.nsIn K mainGlobals "tuple" = some none)
    (z_dict : PySem.W.nsIn K mainGlobals "dict" = some none)
    (z_range : PySem.W.nsIn K mainGlobals "range" = some none)
    (z_enumerate : PySem.W.nsIn K mainGlobals "enumerate" = some none)
    (z_zip : PySem.W.nsIn K mainGlobals "zip" = some none) :
    ∃ fd : FuncData, (∀ (s : Shared) (v : Value), BindsTo s fd ⟨[v], []⟩ [("script", v)]) ∧ ∀ base : Heap, K.In base → base.Ns mainGlobals mg → FnOk l.prog w K mg base CX0 8 fa fd ["script"] (spLaw K) := by
  have e := hfa.symm.trans (PySem.W.mg_of X G a21)
  cases e
  have B : Blt mg := ⟨PySem.W.mg_none_of X G z_isinstance, PySem.W.mg_none_of X G z_len, PySem.W.mg_none_of X G z_sum, PySem.W.mg_none_of X G z_max, PySem.W.mg_none_of X G z_min, PySem.W.mg_none_of X G z_abs, PySem.W.mg_none_of X G z_any, PySem.W.mg_none_of X G z_all, PySem.W.mg_none_of X G z_sorted, PySem.W.mg_none_of X G z_int, PySem.W.mg_none_of X G z_bool, PySem.W.mg_none_of X G z_str, PySem.W.mg_none_of X G z_list, PySem.W.mg_none_of X G z_tuple, PySem.W.mg_none_of X G z_dict, PySem.W.mg_none_of X G z_range, PySem.W.mg_none_of X G z_enumerate, PySem.W.mg_none_of X G z_zip⟩
  have F0 := fun_mk (st := s_power) l0 c0 k0
  have b0 := F0.binds (ps := ["base", "exponent", "modulus"]) fun _ _ _ _ _ _ us hl => match us, hl with | [_, _, _], _ => rfl
  have m0 := PySem.W.mg_of X G a0
  have F1 := fun_mk (st := s_is_prime) l1 c1 k1
  have b1 := F1.binds (ps := ["number"]) fun _ _ _ _ _ _ us hl => match us, hl with | [_], _ => rfl
  have m1 := PySem.W.mg_of X G a1
  have F2 := fun_mk (st := s__is_root) l2 c2 k2
  have b2 := F2.binds (ps := ["p", "q", "number"]) fun _ _ _ _ _ _ us hl => match us, hl with | [_, _, _], _ => rfl
  have m2 := PySem.W.mg_of X G a2
  have F3 := fun_mk (st := s__check_primes) l3 c3 k3
  have b3 := F3.binds (ps := ["p", "q"]) fun _ _ _ _ _ _ us hl => match us, hl with | [_, _], _ => rfl
  have m3 := PySem.W.mg_of X G a3
  have F4 := fun_mk (st := s__check_bases) l4 c4 k4
  have b4 := F4.binds (ps := ["p", "q", "bases"]) fun _ _ _ _ _ _ us hl => match us, hl with | [_, _, _], _ => rfl
  have m4 := PySem.W.mg_of X G a4
  have F5 := fun_mk (st := s_Group___init__) l5 c5 k5
  have b5 := F5.binds (ps := ["self", "p", "q", "bases"]) fun _ _ _ _ _ _ us hl => match us, hl with | [_, _, _, _], _ => rfl
  have F6 := fun_mk (st := s_Group_raised) l6 c6 k6
  have b6 := F6.binds (ps := ["self", "element", "exponent"]) fun _ _ _ _ _ _ us hl => match us, hl with | [_, _, _], _ => rfl
  have F7 := fun_mk (st := s_Group_product) l7 c7 k7
  have b7 := F7.binds (ps := ["self", "pairs"]) fun _ _ _ _ _ _ us hl => match us, hl with | [_, _], _ => rfl
  have F8 := fun_mk (st := s_commit) l8 c8 k8
  have b8 := F8.binds (ps := ["group", "exponents"]) fun _ _ _ _ _ _ us hl => match us, hl with | [_, _], _ => rfl
  have m8 := PySem.W.mg_of X G a8
  have F9 := fun_mk (st := s_is_relation) l9 c9 k9
  have b9 := F9.binds (ps := ["group", "exponents"]) fun _ _ _ _ _ _ us hl => match us, hl with | [_, _], _ => rfl
  have m9 := PySem.W.mg_of X G a9
  have F10 := fun_mk (st := s_relation) l10 c10 k10
  have b10 := F10.binds (ps := ["group", "one", "other"]) fun _ _ _ _ _ _ us hl => match us, hl with | [_, _, _], _ => rfl
  have m10 := PySem.W.mg_of X G a10
  have F11 := fun_mk (st := s__law_pool) l11 c11 k11
  have b11 := F11.binds (ps := ["script", "budget"]) fun _ _ _ _ _ _ us hl => match us, hl with | [_, _], _ => rfl
  have m11 := PySem.W.mg_of X G a11
  have F12 := fun_mk (st := s__law_draw) l12 c12 k12
  have b12 := F12.binds (ps := ["pool", "size"]) fun _ _ _ _ _ _ us hl => match us, hl with | [_, _], _ => rfl
  have m12 := PySem.W.mg_of X G a12
  have F13 := fun_mk (st := s__law_same) l13 c13 k13
  have b13 := F13.binds (ps := ["actual", "due"]) fun _ _ _ _ _ _ us hl => match us, hl with | [_, _], _ => rfl
  have m13 := PySem.W.mg_of X G a13
  have F14 := fun_mk (st := s__law_power) l14 c14 k14
  have b14 := F14.binds (ps := ["base", "exponent", "modulus"]) fun _ _ _ _ _ _ us hl => match us, hl with | [_, _, _], _ => rfl
  have m14 := PySem.W.mg_of X G a14
  have F15 := fun_mk (st := s__law_raised) l15 c15 k15
  have b15 := F15.binds (ps := ["group", "element", "exponent"]) fun _ _ _ _ _ _ us hl => match us, hl with | [_, _, _], _ => rfl
  have m15 := PySem.W.mg_of X G a15
  have F16 := fun_mk (st := s__law_product) l16 c16 k16
  have b16 := F16.binds (ps := ["group", "pairs"]) fun _ _ _ _ _ _ us hl => match us, hl with | [_, _], _ => rfl
  have m16 := PySem.W.mg_of X G a16
  have F17 := fun_mk (st := s__law_commit) l17 c17 k17
  have b17 := F17.binds (ps := ["group", "exponents"]) fun _ _ _ _ _ _ us hl => match us, hl with | [_, _], _ => rfl
  have m17 := PySem.W.mg_of X G a17
  have F18 := fun_mk (st := s__law_group) l18 c18 k18
  have b18 := F18.binds (ps := ["pool", "count", "least"]) fun _ _ _ _ _ _ us hl => match us, hl with | [_, _, _], _ => rfl
  have m18 := PySem.W.mg_of X G a18
  have F19 := fun_mk (st := s__law_numbers) l19 c19 k19
  have b19 := F19.binds (ps := ["pool", "group", "count"]) fun _ _ _ _ _ _ us hl => match us, hl with | [_, _, _], _ => rfl
  have m19 := PySem.W.mg_of X G a19
  have F20 := fun_mk (st := s__law_logs) l20 c20 k20
  have b20 := F20.binds (ps := ["group"]) fun _ _ _ _ _ _ us hl => match us, hl with | [_], _ => rfl
  have m20 := PySem.W.mg_of X G a20
  have F21 := fun_mk (st := s_law) l21 c21 k21
  have b21 := F21.binds (ps := ["script"]) fun _ _ _ _ _ _ us hl => match us, hl with | [_], _ => rfl
  have m21 := PySem.W.mg_of X G a21
  refine ⟨PySem.W.fnOf "law" "law" (defArgs s_law) (defBody s_law) (defScope s_law) .none kV21 dc21 pm21 an21 cd21 ct21, fun s v => .of_eq rfl, fun base _ _ => ?_⟩
  have cls_C : Cls K C := ⟨pg_C, hd_C, po_C, sa_C⟩
  have T : GTxt K C := ⟨cls_C, nP, nQ, nB⟩
  have gl : Glb mg := ⟨⟨_, PySem.W.mg_of X G gS⟩, ⟨_, PySem.W.mg_of X G gL⟩, ⟨_, PySem.W.mg_of X G gF⟩, ⟨_, PySem.W.mg_of X G gM⟩⟩
  have Z_BadOpening : Own K mg "BadOpening" CO := ⟨PySem.W.mg_of X G a_CO, xF, kF, bF, tF2⟩
  have er : Errs K mg CO CV CG CQ CR CT CU := ⟨PySem.W.mg_of X G a_CV, PySem.W.mg_of X G a_CO, PySem.W.mg_of X G a_CG, PySem.W.mg_of X G a_CQ, PySem.W.mg_of X G a_CR, PySem.W.mg_of X G a_CT, PySem.W.mg_of X G a_CU, ⟨hg, hk, bF, hd2, ha, hn, ht, hm⟩, exm_of bV iV tV sV, kit_self, kit_no iG tG sG sO, kit_no iQ tQ sQ sO, kit_no iR tR sR sO, kit_no iT tT sT sO, kit_no iU tU sU sO⟩
  have C_power : C8.Cal l.prog w K mg base 1 "power" spPower [] := ⟨⟨_, _, _, [], ok_power F0 , m0, k0, b0, .nil⟩⟩
  have C_is_prime : C8.Cal l.prog w K mg base 1 "is_prime" spIsPrime [] := ⟨⟨_, _, _, [], ok_is_prime F1 , m1, k1, b1, .nil⟩⟩
  have C__is_root : C8.Cal l.prog w K mg base 2 "_is_root" spRoot [] := ⟨⟨_, _, _, [], ok_is_root F2 C_power, m2, k2, b2, .nil⟩⟩
  have C__check_primes : C8.Cal l.prog w K mg base 2 "_check_primes" spCheckPrimes [] := ⟨⟨_, _, _, [], ok_check_primes F3 gl C_is_prime, m3, k3, b3, .nil⟩⟩
  have C__check_bases : C8.Cal l.prog w K mg base 3 "_check_bases" (spCheckBases K) [] := ⟨⟨_, _, _, [], ok_check_bases F4 gl B C__is_root, m4, k4, b4, .nil⟩⟩
  have K_Group : C8.Mak l.prog w K mg base 4 "Group" C (spGroupInit K C) [] := ⟨⟨f5, _, _, [], ⟨mk_C, a5, i5, kc_C⟩, ok_group_init F5 T B C__check_primes C__check_bases, PySem.W.mg_of X G a_C, b5, .nil⟩⟩
  have M_raised : C8.Met l.prog w K mg base 2 C "raised" (spRaised C) [] := ⟨⟨f6, _, _, [], cls_C, ⟨a6, i6, k6⟩, ok_raised F6 T C_power, b6, .nil⟩⟩
  have M_product : C8.Met l.prog w K mg base 3 C "product" (spProduct C) [] := ⟨⟨f7, _, _, [], cls_C, ⟨a7, i7, k7⟩, ok_product F7 T M_raised, b7, .nil⟩⟩
  have C_commit : C8.Cal l.prog w K mg base 4 "commit" (spCommit K C) [] := ⟨⟨_, _, _, [], ok_commit F8 T B M_product, m8, k8, b8, .nil⟩⟩
  have C_is_relation : C8.Cal l.prog w K mg base 5 "is_relation" (spIsRelation K C) [] := ⟨⟨_, _, _, [], ok_is_relation F9 T B C_commit, m9, k9, b9, .nil⟩⟩
  have X_relation : CalX l.prog w K mg base 5 "relation" (spRelation K C CO) f10 _ ["group", "one", "other"] := ⟨ok_relation F10 T B C_commit Z_BadOpening, m10, k10, b10⟩
  have C__law_pool : C8.Cal l.prog w K mg base 1 "_law_pool" (spPool K) [] := ⟨⟨_, _, _, [], ok_law_pool F11 B, m11, k11, b11, .nil⟩⟩
  have C__law_draw : C8.Cal l.prog w K mg base 1 "_law_draw" spDraw [] := ⟨⟨_, _, _, [], ok_law_draw F12 B, m12, k12, b12, .nil⟩⟩
  have C__law_same : C8.Cal l.prog w K mg base 6 "_law_same" (spSame 6) [] := ⟨⟨_, _, _, [], ok_law_same F13 B m13 b13 6, m13, k13, b13, .nil⟩⟩
  have C__law_power : C8.Cal l.prog w K mg base 1 "_law_power" spLPower [] := ⟨⟨_, _, _, [], ok_law_power F14 B, m14, k14, b14, .nil⟩⟩
  have C__law_raised : C8.Cal l.prog w K mg base 2 "_law_raised" spLRaised [] := ⟨⟨_, _, _, [], ok_law_raised F15 B C__law_power, m15, k15, b15, .nil⟩⟩
  have C__law_product : C8.Cal l.prog w K mg base 3 "_law_product" spLProduct [] := ⟨⟨_, _, _, [], ok_law_product F16 B C__law_raised, m16, k16, b16, .nil⟩⟩
  have C__law_commit : C8.Cal l.prog w K mg base 4 "_law_commit" (spLCommit K) [] := ⟨⟨_, _, _, [], ok_law_commit F17 B C__law_product, m17, k17, b17, .nil⟩⟩
  have C__law_group : C8.Cal l.prog w K mg base 2 "_law_group" spLGroup [] := ⟨⟨_, _, _, [], ok_law_group F18 B C__law_draw C__law_power, m18, k18, b18, .nil⟩⟩
  have C__law_numbers : C8.Cal l.prog w K mg base 2 "_law_numbers" spLNumbers [] := ⟨⟨_, _, _, [], ok_law_numbers F19 B C__law_draw, m19, k19, b19, .nil⟩⟩
  have C__law_logs : C8.Cal l.prog w K mg base 2 "_law_logs" spLLogs [] := ⟨⟨_, _, _, [], ok_law_logs F20 B C__law_power, m20, k20, b20, .nil⟩⟩
  exact ok_law F21 T B er C__law_pool C__law_draw C__law_group C__law_numbers C__law_same C__law_commit C__law_logs C_commit C_is_relation X_relation K_Group
theorem walk {l : PySem.W.OpenLaw} {q : Program} {loose : List Str} {XP : (Str → Option Value) → Heap → Prop} {YP : World → Heap → Prop} {d : DefRec} {K : Params → PySem.W.Frag} (hn : l.most = some 63) (hdf : d.params.defaults = [])
    (hY : ∀ (w : World) (h : Heap), YP w h → (K w.params).In h)
    (F : ∀ (w : World) (mg : Str → Option Value) (fa : Addr) (h : Heap), (K w.params).In h → h.Ns mainGlobals mg → mg d.name = some (.ref fa) →
      ∃ fd : FuncData, (∀ (s : Shared) (u : Value), BindsTo s fd ⟨[u], []⟩ [("script", u)]) ∧ ∀ base : Heap, (K w.params).In base → base.Ns mainGlobals mg → FnOk l.prog w (K w.params) mg base CX0 8 fa fd ["script"] (spLaw (K w.params))) :
    PySem.W.WalkO q loose XP YP l.row.toRowW d [] (fun f vs => PySem.call f vs) :=
  L2.walk_of (n := 63) (k := 8) (x := "script") (CX := fun _ => CX0) (sp := fun w => spLaw (K w.params)) hn (by decide) hdf ⟨rfl, by decide, by decide⟩ hY F (fun _ _ a ns hl _ hS => ⟨a, ns, rfl, hS, fun _ => rfl⟩) fun _ _ _ _ _ z => z
end My
open PySem PySem.W PyProof.Rows
set_option maxRecDepth 100000 in
set_option maxHeartbeats 0 in
theorem PySem.Challenge.cw_vouchdoor_k02_commitments_and_relations_holds : PySem.Challenge.rw_vouchdoor_k02_commitments_and_relations.Holds := by
  w_on; o_law; k_head; (case hw => w_witness2)
  k_fill
  refine My.walk (l := PySem.Challenge.rw_vouchdoor_k02_commitments_and_relations) rfl rfl (fun w h Y => PySem.W.kIn_of Y) ?F
  case F =>
    intro w mg fa h KX G hmg
    refine' My.all_mk KX G hmg ?a_C ?pg_C ?hd_C ?po_C ?sa_C ?mk_C ?kc_C ?nP ?nQ ?nB ?gS ?gL ?gF ?gM ?a_CV ?a_CO ?a_CG ?a_CQ ?a_CR ?a_CT ?a_CU ?xF ?kF ?bF ?tF2 ?bV ?iV ?tV ?sV ?hg ?hk ?hd2 ?ha ?hn ?ht ?hm ?sO ?iG ?tG ?sG ?iQ ?tQ ?sQ ?iR ?tR ?sR ?iT ?tT ?sT ?iU ?tU ?sU ?a0 ?l0 ?c0 ?k0 ?a1 ?l1 ?c1 ?k1 ?a2 ?l2 ?c2 ?k2 ?a3 ?l3 ?c3 ?k3 ?a4 ?l4 ?c4 ?k4 ?a5 ?i5 ?l5 ?c5 ?k5 ?a6 ?i6 ?l6 ?c6 ?k6 ?a7 ?i7 ?l7 ?c7 ?k7 ?a8 ?l8 ?c8 ?k8 ?a9 ?l9 ?c9 ?k9 ?a10 ?l10 ?c10 ?k10 ?a11 ?l11 ?c11 ?k11 ?a12 ?l12 ?c12 ?k12 ?a13 ?l13 ?c13 ?k13 ?a14 ?l14 ?c14 ?k14 ?a15 ?l15 ?c15 ?k15 ?a16 ?l16 ?c16 ?k16 ?a17 ?l17 ?c17 ?k17 ?a18 ?l18 ?c18 ?k18 ?a19 ?l19 ?c19 ?k19 ?a20 ?l20 ?c20 ?k20 ?a21 ?l21 ?c21 ?k21 ?z_isinstance ?z_len ?z_sum ?z_max ?z_min ?z_abs ?z_any ?z_all ?z_sorted ?z_int ?z_bool ?z_str ?z_list ?z_tuple ?z_dict ?z_range ?z_enumerate ?z_zip
    (case a_C => k_is)
    (case pg_C => k_is)
    (case hd_C => k_is)
    (case po_C => k_is)
    (case sa_C => k_is)
    (case mk_C => k_is)
    (case kc_C => k_is)
    (case nP => k_is)
    (case nQ => k_is)
    (case nB => k_is)
    (case gS => k_is)
    (case gL => k_is)
    (case gF => k_is)
    (case gM => k_is)
    (case a_CV => k_is)
    (case a_CO => k_is)
    (case a_CG => k_is)
    (case a_CQ => k_is)
    (case a_CR => k_is)
    (case a_CT => k_is)
    (case a_CU => k_is)
    (case xF => k_exc)
    (case kF => k_is)
    (case bF => k_is)
    (case tF2 => k_is)
    (case bV => k_is)
    (case iV => k_is)
    (case tV => k_is)
    (case sV => k_is)
    (case hg => k_is)
    (case hk => k_is)
    (case hd2 => k_is)
    (case ha => k_is)
    (case hn => k_is)
    (case ht => k_is)
    (case hm => k_is)
    (case sO => first | rfl | k_is)
    (case iG => k_is)
    (case tG => k_is)
    (case sG => k_is)
    (case iQ => k_is)
    (case tQ => k_is)
    (case sQ => k_is)
    (case iR => k_is)
    (case tR => k_is)
    (case sR => k_is)
    (case iT => k_is)
    (case tT => k_is)
    (case sT => k_is)
    (case iU => k_is)
    (case tU => k_is)
    (case sU => k_is)
    (case a0 => k_is)
    (case l0 => k_is)
    (case c0 => k_is)
    (case k0 => k_is)
    (case a1 => k_is)
    (case l1 => k_is)
    (case c1 => k_is)
    (case k1 => k_is)
    (case a2 => k_is)
    (case l2 => k_is)
    (case c2 => k_is)
    (case k2 => k_is)
    (case a3 => k_is)
    (case l3 => k_is)
    (case c3 => k_is)
    (case k3 => k_is)
    (case a4 => k_is)
    (case l4 => k_is)
    (case c4 => k_is)
    (case k4 => k_is)
    (case a5 => k_is)
    (case i5 => k_is)
    (case l5 => k_is)
    (case c5 => k_is)
    (case k5 => k_is)
    (case a6 => k_is)
    (case i6 => k_is)
    (case l6 => k_is)
    (case c6 => k_is)
    (case k6 => k_is)
    (case a7 => k_is)
    (case i7 => k_is)
    (case l7 => k_is)
    (case c7 => k_is)
    (case k7 => k_is)
    (case a8 => k_is)
    (case l8 => k_is)
    (case c8 => k_is)
    (case k8 => k_is)
    (case a9 => k_is)
    (case l9 => k_is)
    (case c9 => k_is)
    (case k9 => k_is)
    (case a10 => k_is)
    (case l10 => k_is)
    (case c10 => k_is)
    (case k10 => k_is)
    (case a11 => k_is)
    (case l11 => k_is)
    (case c11 => k_is)
    (case k11 => k_is)
    (case a12 => k_is)
    (case l12 => k_is)
    (case c12 => k_is)
    (case k12 => k_is)
    (case a13 => k_is)
    (case l13 => k_is)
    (case c13 => k_is)
    (case k13 => k_is)
    (case a14 => k_is)
    (case l14 => k_is)
    (case c14 => k_is)
    (case k14 => k_is)
    (case a15 => k_is)
    (case l15 => k_is)
    (case c15 => k_is)
    (case k15 => k_is)
    (case a16 => k_is)
    (case l16 => k_is)
    (case c16 => k_is)
    (case k16 => k_is)
    (case a17 => k_is)
    (case l17 => k_is)
    (case c17 => k_is)
    (case k17 => k_is)
    (case a18 => k_is)
    (case l18 => k_is)
    (case c18 => k_is)
    (case k18 => k_is)
    (case a19 => k_is)
    (case l19 => k_is)
    (case c19 => k_is)
    (case k19 => k_is)
    (case a20 => k_is)
    (case l20 => k_is)
    (case c20 => k_is)
    (case k20 => k_is)
    (case a21 => k_is)
    (case l21 => k_is)
    (case c21 => k_is)
    (case k21 => k_is)
    (case z_isinstance => k_is)
    (case z_len => k_is)
    (case z_sum => k_is)
    (case z_max => k_is)
    (case z_min => k_is)
    (case z_abs => k_is)
    (case z_any => k_is)
    (case z_all => k_is)
    (case z_sorted => k_is)
    (case z_int => k_is)
    (case z_bool => k_is)
    (case z_str => k_is)
    (case z_list => k_is)
    (case z_tuple => k_is)
    (case z_dict => k_is)
    (case z_range => k_is)
    (case z_enumerate => k_is)
    (case z_zip => k_is)

