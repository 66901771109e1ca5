import PyProof.Rows.All
import Wide.All
import OpenK.AllK
import Wide.FinOn
import HandS.ForMost
import HandS.IsInst
import HandS.Codes
import HandS.Zip
import KE.GoesEnum
import KE.KDictZip
import KE.KItemsList
import HandS.OwnEq
import HandS.Style
import HandS.TupAny
import HandS.Strs
import HandS.Conv
import HandS.Star
import PyProof.SumWalkG
import PySem.Challenge.RW_vouchdoor_k13_replies_that_do_not_fit
set_option Elab.async false
set_option linter.all false
set_option maxRecDepth 100000




namespace My
open PySem PySem.Spec PyProof.Rows L2
/-! ### zip over lists and tuples in any mix; list(zip(..)) -/
section
variable {prog : Program} {w : World} {A : Around} {E : Value → Shared → Prop} {s : Shared}
/-- an iterator over a list (false) or a tuple (true) -/
def ItK (k : Bool) (h : Heap) (it l : Addr) (i : Nat) : Prop := match k with
  | true => h.IsTupleIter it l i
  | false => h.IsListIter it l i
def SeK (k : Bool) (h : Heap) (l : Addr) (its : Array Value) : Prop := match k with
  | true => h.IsTuple l its
  | false => h.IsList l its
abbrev StK (k : Bool) (it l : Addr) (its : Array Value) : Nat → Heap → Prop := fun i h => ItK k h it l i ∧ SeK k h l its
theorem drK (k : Bool) (hh : A.handled = none) {it l : Addr} (ne : l ≠ it) (its : Array Value) : Draws prog w A it [it, l] its.size (fun i v => its[i]? = some v) (StK k it l its) := by
  cases k with
  | true => exact Draws.tuple hh it l ne its
  | false => exact Draws.list hh it l ne its
def itO (k : Bool) (l : Addr) : Obj := match k with
  | true => { cls := .type "tuple_iterator", data := .fields #[.ref l, .int 0 0] }
  | false => { cls := .type "list_iterator", data := .fields #[.ref l, .int 0 0] }
theorem bgK (k : Bool) (l : Addr) (its : Array Value) : Begins (.ref l) (itO k l) fun h => SeK k h l its := by
  cases k with
  | true => exact begins_tuple l its
  | false => exact begins_list l its
theorem itK0 {k : Bool} {h : Heap} {it l : Addr} (e : h.get? it = some (itO k l)) : ItK k h it l 0 := by
  cases k with
  | true => exact ⟨_, e, rfl, rfl⟩
  | false => exact ⟨_, e, rfl, rfl⟩
theorem SeK.at {k : Bool} {h h' : Heap} {l : Addr} {its : Array Value} (x : SeK k h l its) (q : ∀ o, h.get? l = some o → h'.get? l = some o) : SeK k h' l its := by
  cases k with
  | true => exact Heap.IsTuple.at (show h.IsTuple l its from x) q
  | false => exact Heap.IsList.at (show h.IsList l its from x) q
theorem ItK.at {k : Bool} {h h' : Heap} {it l : Addr} {i : Nat} (x : ItK k h it l i) (q : ∀ o, h.get? it = some o → h'.get? it = some o) : ItK k h' it l i := by
  cases k with
  | true => exact Heap.IsTupleIter.at (show h.IsTupleIter it l i from x) q
  | false => exact Heap.IsListIter.at (show h.IsListIter it l i from x) q
theorem ItK.obj {k : Bool} {h : Heap} {it l : Addr} {i : Nat} (x : ItK k h it l i) : ∃ o, h.get? it = some o ∧ ∀ v, o.data ≠ .cell v := by
  cases k with
  | true =>
    obtain ⟨o, e, _, d⟩ := x
    exact ⟨o, e, fun v q => by rw [d] at q; cases q⟩
  | false =>
    obtain ⟨o, e, _, d⟩ := x
    exact ⟨o, e, fun v q => by rw [d] at q; cases q⟩
theorem SeK.lt {k : Bool} {h : Heap} {l : Addr} {its : Array Value} (x : SeK k h l its) : l < h.objs.size := by
  cases k with
  | true =>
    obtain ⟨o, e, _⟩ := x
    exact Heap.lt_size e
  | false =>
    obtain ⟨o, e, _⟩ := x
    exact Heap.lt_size e
theorem sepK {z TI TO i1 i2 a b : Addr} (D : ZipApart z TI TO i1 i2 a b) : ZipSep2 z TI TO i1 i2 [i1, a] [i2, b] where
  TIz := D.TIz
  TOz := D.TOz
  TITO := D.TITO
  TIi1 := D.TIi1
  mem1 := by simp
  zf1 := by simp [D.i1z.symm, D.l1z.symm]
  Tf1 := by simp [D.TOi1, D.l1TO.symm]
  TIi2 := D.TIi2
  mem2 := by simp
  zf2 := by simp [D.i2z.symm, D.l2z.symm]
  Tf2 := by simp [D.TOi2, D.l2TO.symm]
  sep1_2 := by simp [D.i12, D.l2i1.symm]
  sep2_1 := by simp [D.i12.symm, D.l1i2.symm]
end
def SqK (k : Bool) (K : PySem.W.Frag) (H : Hp) (a : Addr) (xs : List V) : Prop := match k with
  | true => SqT K H a xs
  | false => SqL K H a xs
section
variable {X : Cx} {pins : List (Addr × Obj)} {σ : L2.St} {H : Hp} {s : Shared}
theorem seqK {k : Bool} {a : Addr} {xs : List V} (I : Inv X pins σ H s) (h : SqK k X.K H a xs) : ∃ its : List Value, Vals xs its ∧ SeK k s.heap a its.toArray ∧ xs.length ≤ sizeLine := by
  cases k with
  | true =>
    obtain ⟨its, r, p, z⟩ := I.tuple h
    exact ⟨its, r, p, z⟩
  | false =>
    obtain ⟨its, r, p, z⟩ := I.list h
    exact ⟨its, r, p.isList, z⟩
theorem seqK_inj {k : Bool} {a : Addr} {xs ys : List V} (I : Inv X pins σ H s) (h : SqK k X.K H a xs) (h' : SqK k X.K H a ys) : xs = ys := by
  cases k with
  | true => exact I.tuple_inj h h'
  | false => exact I.list_inj h h'
end
/-- the turns of a zip of a and b -/
def ItzK (k1 k2 : Bool) (K : PySem.W.Frag) (a b : Addr) : It where
  go := fun i H => ∃ (xs ys : List V) (x y : V), SqK k1 K H a xs ∧ SqK k2 K H b ys ∧ xs[i]? = some x ∧ ys[i]? = some y
  yld := fun i H v H' => ∃ T x y, v = .ref T ∧ H T = none ∧ H' = upd H T (.tup [x, y]) ∧ (∀ xs, SqK k1 K H a xs → xs[i]? = some x) ∧ ∀ ys, SqK k2 K H b ys → ys[i]? = some y
  stop := fun i H => ∃ xs ys : List V, SqK k1 K H a xs ∧ SqK k2 K H b ys ∧ i ≤ xs.length ∧ i ≤ ys.length ∧ (i = xs.length ∨ i = ys.length)
theorem turnK {P : Program} {w : World} {K : PySem.W.Frag} {elts : List Expr} {kk : Nat} {tpos : Pos} {k1 k2 : Bool} {a b z TI TO i1 i2 : Addr} (D : ZipApart z TI TO i1 i2 a b) :
    Turn P w K (.Tuple elts kk tpos) (ItzK k1 k2 K a b) [z, TI, TO, i1, i2] z
      (fun i h => IsZip h z TI TO .none ∧ IsPair h TI (.ref i1) (.ref i2) ∧ (∃ x y, IsPair h TO x y) ∧ ItK k1 h i1 a i ∧ ItK k2 h i2 b i) where
  mem := by simp
  obj := fun i h st c hc => by
    obtain ⟨hz, hTI, ⟨x, y, hTO⟩, g1, g2⟩ := st
    simp only [List.mem_cons, List.not_mem_nil, or_false] at hc
    rcases hc with rfl | rfl | rfl | rfl | rfl
    · exact ⟨_, hz, fun v q => nomatch q⟩
    · exact ⟨_, hTI, fun v q => nomatch q⟩
    · exact ⟨_, hTO, fun v q => nomatch q⟩
    · exact g1.obj
    · exact g2.obj
  keep := fun i h h' st q => by
    obtain ⟨hz, hTI, ⟨x, y, hTO⟩, g1, g2⟩ := st
    exact ⟨q z (by simp) _ hz, q TI (by simp) _ hTI, ⟨x, y, q TO (by simp) _ hTO⟩, g1.at fun o => q i1 (by simp) o, g2.at fun o => q i2 (by simp) o⟩
  item := by
    intro X hP hw hK hc i pins s σ H E I hf st hg
    subst hP hw hK
    obtain ⟨hz, hTI, ⟨x0, y0, hTO⟩, g1, g2⟩ := st
    obtain ⟨xs, ys, x, y, qx, qy, hx, hy⟩ := hg
    obtain ⟨us, ru, pu, _⟩ := seqK I qx
    obtain ⟨vs, rv, pv, _⟩ := seqK I qy
    obtain ⟨u, hu, ru1⟩ := ru.get hx
    obtain ⟨v, hv, rv1⟩ := rv.get hy
    have zl : z < s.heap.objs.size := Heap.lt_size hz
    have lu : i < us.toArray.size := by simpa using (List.getElem?_eq_some_iff.mp hu).1
    have lv : i < vs.toArray.size := by simpa using (List.getElem?_eq_some_iff.mp hv).1
    have hh : X.A.in1.handled = none := I.ok.hd hc
    have d1 := drK (prog := X.prog) (w := X.w) (A := X.A.in1) k1 hh D.l1i1 us.toArray
    have d2 := drK (prog := X.prog) (w := X.w) (A := X.A.in1) k2 hh D.l2i2 vs.toArray
    refine wpAny_pyNext_zipD2_item (sepK D) d1 d2 hz hTI hTO ⟨g1, pu⟩ ⟨g2, pv⟩ lu lv fun u' v' h' tk eu ev z1 t1 s1 s2 hT hsz hk => ?_
    have eu' : u' = u := by
      have : us.toArray[i]? = some u := by simpa using hu
      rw [this] at eu
      exact (Option.some.inj eu).symm
    have ev' : v' = v := by
      have : vs.toArray[i]? = some v := by simpa using hv
      rw [this] at ev
      exact (Option.some.inj ev).symm
    subst eu' ev'
    refine ⟨_, rfl, wpAny_letOwnedTupleGo_zip (s := { s with heap := h', toks := tk }) z1 fun h2 z2 sb => ?_⟩
    have hT2 : IsPair h2 s.heap.objs.size u' v' := (sb.2 _ (Nat.ne_of_gt zl)).trans hT
    have new : ObjOk X.prog X.w (upd H s.heap.objs.size (.tup [x, y])) h2 s.heap.objs.size (.tup [x, y]) := ⟨Nat.le_of_ble_eq_true rfl, [u', v'], .cons ru1 (.cons rv1 .nil), ⟨_, hT2, rfl, _, rfl⟩⟩
    have ks : ∀ c o, c ∉ [z, TI, TO, i1, i2] → s.heap.get? c = some o → h2.get? c = some o := fun c o hb q => by
      simp only [List.mem_cons, List.not_mem_nil, or_false, not_or] at hb
      exact (sb.2 c hb.1).trans (hk c o hb.1 hb.2.2.1 hb.2.2.2.1 hb.2.2.2.2 q)
    have J := I.turnedNew (t' := tk) (ch := [z, TI, TO, i1, i2]) ks hf (Nat.le_refl _) new
    refine ⟨V.ref s.heap.objs.size, _, J, rfl, ⟨_, x, y, rfl, I.hok.fresh (Nat.le_refl _), rfl, fun l hl => by rw [seqK_inj I hl qx]; exact hx, fun l hl => by rw [seqK_inj I hl qy]; exact hy⟩, ⟨z2, ?_, ⟨u', v', (sb.2 _ D.TOz).trans t1⟩, s1.1.at fun o q => (sb.2 _ D.i1z).trans q, s2.1.at fun o q => (sb.2 _ D.i2z).trans q⟩, fun c hcm => ?_⟩
    · exact (sb.2 _ D.TIz).trans (hk _ _ D.TIz D.TITO D.TIi1 D.TIi2 hTI)
    · have hlt : c < s.heap.objs.size := by
        simp only [List.mem_cons, List.not_mem_nil, or_false] at hcm
        rcases hcm with rfl | rfl | rfl | rfl | rfl
        · exact zl
        · exact Heap.lt_size hTI
        · exact Heap.lt_size hTO
        · obtain ⟨_, e, _⟩ := g1.obj
          exact Heap.lt_size e
        · obtain ⟨_, e, _⟩ := g2.obj
          exact Heap.lt_size e
      rw [upd_ne (Nat.ne_of_lt hlt)]
      exact (hf c hcm).1
  done := by
    intro X hP hw hK hc i pins s σ H E I hf st hg
    subst hP hw hK
    obtain ⟨hz, hTI, ⟨x0, y0, hTO⟩, g1, g2⟩ := st
    obtain ⟨xs, ys, qx, qy, lx, ly, hend⟩ := hg
    obtain ⟨us, ru, pu, _⟩ := seqK I qx
    obtain ⟨vs, rv, pv, _⟩ := seqK I qy
    have e1 := ru.length
    have e2 := rv.length
    have hh : X.A.in1.handled = none := I.ok.hd hc
    have d1 := drK (prog := X.prog) (w := X.w) (A := X.A.in1) k1 hh D.l1i1 us.toArray
    have d2 := drK (prog := X.prog) (w := X.w) (A := X.A.in1) k2 hh D.l2i2 vs.toArray
    refine wpAny_pyNext_zipD2_end (sepK D) d1 d2 hz hTI hTO ⟨g1, pu⟩ ⟨g2, pv⟩ (by simp; omega) (by simp; omega) (by simp; omega) fun h' tk hk => ⟨rfl, I.turnedL (t' := tk) (ch := [z, TI, TO, i1, i2]) (fun c o hb q => ?_) hf⟩
    simp only [List.mem_cons, List.not_mem_nil, or_false, not_or] at hb
    exact hk c o hb.1 hb.2.2.1 hb.2.2.2.1 hb.2.2.2.2 q
  self := fun A i s Q E st h => wpAny_pyIter_zip st.1 h
/-- zip(e, e2): the kinds told -/
def iZipK (k1 k2 : Bool) (K : PySem.W.Frag) (ta : TA) : TI := fun σ H R => ta σ H fun vs H1 => ∃ a b xs ys, vs = [.ref a, .ref b] ∧ SqK k1 K H1 a xs ∧ SqK k2 K H1 b ys ∧ R (ItzK k1 k2 K a b) H1
theorem fresh5 {X : Cx} {pins : List (Addr × Obj)} {σ : L2.St} {H : Hp} {s : Shared} (I : Inv X pins σ H s) (c : Addr) (hc : c ∈ [s.heap.objs.size + 4, s.heap.objs.size + 2, s.heap.objs.size + 3, s.heap.objs.size, s.heap.objs.size + 1]) : FpOk X pins H c := by
  have le : s.heap.objs.size ≤ c := by
    simp only [List.mem_cons, List.not_mem_nil, or_false] at hc
    rcases hc with rfl | rfl | rfl | rfl | rfl
    · exact Nat.le_add_right _ _
    · exact Nat.le_add_right _ _
    · exact Nat.le_add_right _ _
    · exact Nat.le_refl _
    · exact Nat.le_add_right _ _
  exact I.fpOk le (I.hok.fresh le)
theorem pi_zipK (k1 k2 : Bool) {X : Cx} {K : PySem.W.Frag} (hK : X.K = K) {e e2 : Expr} {ta : TA} {p pos tpos : Pos} {elts : List Expr} {kk : Nat} (hg : Gl X "zip") (hm : X.mg "zip" = none) (ha : PA X [e, e2] ta)
    (hs : starEach [e, e2] X.env = (false, eval e X.env) :: starEach [e2] X.env := by rfl) (hpl : (backTo pos (starEach [e2] X.env)).any (·.1) = false := by rfl) :
    PI X (.Tuple elts kk tpos) (.Call (.Name "zip" p) [e, e2] [] pos) (iZipK k1 k2 K ta) := by
  subst hK
  refine ⟨fun pins s σ H R I h => Call_ (ld_blt I hg hm PyProof.Rows.boot_zip (PyProof.Rows.callWith_type1 (thn (ha.run pos pins s σ H _ I h) fun us s1 hh => ?_) hs hpl))⟩
  obtain ⟨vs, H1, I1, r1, a, b, xs, ys, rfl, qx, qy, q⟩ := hh
  obtain ⟨u1, u2, rfl, ru, rv⟩ := vals2 r1
  cases (show u1 = Value.ref a from ru)
  cases (show u2 = Value.ref b from rv)
  obtain ⟨us, _, pu, _⟩ := seqK I1 qx
  obtain ⟨ws, _, pw, _⟩ := seqK I1 qy
  refine zip_begins2 (bgK k1 a us.toArray) (bgK k2 b ws.toArray) pu pw fun h' hz hTI hTO o1 o2 hsz hk => wpAny_pyIter_zip hz ?_
  have J : Inv X pins σ H1 { s1 with heap := h' } := I1.kept (t' := s1.toks) hk
  exact ⟨_, [s1.heap.objs.size + 4, s1.heap.objs.size + 2, s1.heap.objs.size + 3, s1.heap.objs.size, s1.heap.objs.size + 1], _, _, H1, rfl, J, turnK (PySem.W.ktu_apart s1.heap.objs.size a b pu.lt pw.lt), ⟨hz, hTI, ⟨_, _, hTO⟩, itK0 o1, itK0 o2⟩, fresh5 I1, q⟩
/-- what a loop over it asks -/
theorem for_zipK {k1 k2 : Bool} {K : PySem.W.Frag} {a b : Addr} {xs ys : List V} {g : TG} {tb : TS} {D : Ends} {σ : L2.St} {H : Hp} (hl : xs.length = ys.length) (Pv : Nat → L2.St → Hp → Prop) (h0 : Pv 0 σ H) (hq : ∀ i σ H, Pv i σ H → SqK k1 K H a xs ∧ SqK k2 K H b ys)
    (hs : ∀ (i : Nat) (x y : V) (T : Addr) (σ : L2.St) (H : Hp), xs[i]? = some x → ys[i]? = some y → Pv i σ H → H T = none → g (.ref T) σ (upd H T (.tup [x, y])) fun σ2 H2 => tb { D with nx := Pv (i + 1), ct := Pv (i + 1), bk := D.nx } σ2 H2) (hd : ∀ σ H, Pv xs.length σ H → D.nx σ H) :
    ∃ W : Nat → Nat → L2.St → Hp → Prop, (∃ m, W 0 m σ H) ∧ ∀ i m σ H, W i m σ H →
      ((ItzK k1 k2 K a b).stop i H ∧ D.nx σ H) ∨ ((ItzK k1 k2 K a b).go i H ∧ ∃ N : L2.St → Hp → Prop, (∀ σ' H', N σ' H' → ∃ m', m' < m ∧ W (i + 1) m' σ' H') ∧ ∀ v H', (ItzK k1 k2 K a b).yld i H v H' → g v σ H' fun σ2 H2 => tb { D with nx := N, ct := N, bk := D.nx } σ2 H2) := by
  refine ⟨fun i m σ H => m + i = xs.length ∧ Pv i σ H, ⟨xs.length, rfl, h0⟩, ?_⟩
  rintro i m σ H ⟨hm, p⟩
  obtain ⟨qx, qy⟩ := hq i σ H p
  by_cases hlt : i < xs.length
  · have hx : xs[i]? = some xs[i] := List.getElem?_eq_getElem hlt
    have hy : ys[i]? = some (ys[i]'(by omega)) := List.getElem?_eq_getElem (by omega)
    refine .inr ⟨⟨xs, ys, _, _, qx, qy, hx, hy⟩, Pv (i + 1), fun σ' H' p' => ⟨m - 1, by omega, by omega, p'⟩, fun v H' yl => ?_⟩
    obtain ⟨T, x', y', rfl, hT, rfl, f1, f2⟩ := yl
    exact hs i x' y' T σ H (f1 xs qx) (f2 ys qy) p hT
  · have e : i = xs.length := by omega
    subst e
    exact .inl ⟨⟨xs, ys, qx, qy, Nat.le_refl _, by omega, .inl rfl⟩, hd σ H p⟩

/-! ### list(zip(..)) -/
section
variable {prog : Program} {w : World} {A : Around} {E : Value → Shared → Prop} {s : Shared} {z TI TO T i1 i2 : Addr} {fp1 fp2 : List Addr} {n1 n2 i : Nat} {P1 P2 : Nat → Value → Prop} {St1 St2 : Nat → Heap → Prop} {f : Bool} {oT : Obj}
theorem zh_item {Q : Value → Shared → Prop} (S : ZipSep2 z TI TO i1 i2 fp1 fp2) (D1 : Draws prog w A i1 fp1 n1 P1 St1) (D2 : Draws prog w A i2 fp2 n2 P2 St2)
    (hz : IsZipHeld s.heap z TI TO T f) (hT : s.heap.get? T = some oT) (hTI : IsPair s.heap TI (.ref i1) (.ref i2)) (st1 : St1 i s.heap) (st2 : St2 i s.heap) (lt1 : i < n1) (lt2 : i < n2)
    (hQ : ∀ x y h' tk, P1 i x → P2 i y → IsZipHeld h' z TI TO T true → St1 (i + 1) h' → St2 (i + 1) h' → IsPair h' s.heap.objs.size x y → h'.objs.size = s.heap.objs.size + 1 →
      (∀ c o, c ≠ z → c ≠ i1 → c ≠ i2 → s.heap.get? c = some o → h'.get? c = some o) → Q (.ref s.heap.objs.size) { s with heap := h', toks := tk }) :
    wpAny (model prog w) A (Builtin.«zip.__next__» ⟨[.ref z], []⟩) (fun fin s' => ∃ v, fin = .done (.ret v) ∧ Q v s') E s := by
  obtain ⟨h0, g, d, tk0, os⟩ := s
  show wpAny _ _ (field (.ref z) 2 >>= fun _ => _) _ _ _; refine wpAny_bind (wpAny_field (x := .bool false) hz rfl rfl ?_)
  show wpAny _ _ (field (.ref z) 3 >>= fun _ => _) _ _ _; refine wpAny_bind (wpAny_field (x := .ref TI) hz rfl rfl ?_)
  refine wpAny_bind (wpAny_seqItems hTI rfl ?_); show wpAny _ _ (Builtin.SmallTypes.ownedTupleIsFree (.ref z) >>= fun _ => _) _ _ _
  refine wpAny_bind (wpAny_tupleHeld_zip hz hT fun ha za sa => ?_)
  simp only [Bool.false_eq_true, if_false]; refine wpAny_bind ?_
  rw [← Array.forIn_toList]; simp only [List.forIn_cons, List.forIn_nil]
  refine wpAny_bind (wpAny_bind (wpAny_holding ?_)); show wpAny _ _ (Builtin.SmallTypes.nextOf (.ref i1) >>= fun _ => _) _ _ _
  refine wpAny_bind (D1.item i ⟨ha, g, d, tk0, os⟩ _ _ lt1 (D1.over st1 sa S.zf1) fun x hb tkb px st1b sb => wpAny_pure ?_); refine wpAny_pure ?_
  refine wpAny_bind (wpAny_bind (wpAny_holding ?_)); show wpAny _ _ (Builtin.SmallTypes.nextOf (.ref i2) >>= fun _ => _) _ _ _
  refine wpAny_bind (D2.item i ⟨hb, g, d, tkb, os⟩ _ _ lt2 (D2.over (D2.over st2 sa S.zf2) sb S.sep1_2) fun y hc tkc py st2c sc => wpAny_pure ?_); refine wpAny_pure (wpAny_pure ?_)
  show wpAny _ _ (newTuple [x, y] >>= fun _ => _) _ _ _; refine wpAny_bind (wpAny_newTuple ?_)
  have hsz : hc.objs.size = h0.objs.size := by rw [sc.1, sb.1, sa.1]
  have zc : IsZipHeld hc z TI TO T true := sc.extBut _ _ S.zi2 (sb.extBut _ _ S.zi1 za)
  have up : ∀ c o, hc.get? c = some o → (hc.push { cls := .type "tuple", data := .seq #[x, y] }).get? c = some o := fun c o e => Heap.get?_push_of_some _ e
  refine wpAny_pure ⟨_, rfl, ?_⟩
  show Q (.ref hc.objs.size) _
  have hp : IsPair (hc.push { cls := .type "tuple", data := .seq #[x, y] }) hc.objs.size x y := Heap.get?_push_size _ rfl
  have h4 : (hc.push { cls := .type "tuple", data := .seq #[x, y] }).objs.size = hc.objs.size + 1 := Heap.size_push ..
  rw [hsz] at hp h4 ⊢
  exact hQ x y _ tkc px py (up _ _ zc) (D1.frame _ _ _ (D1.over st1b sc S.sep2_1) fun c _ o e => up c o e) (D2.frame _ _ _ st2c fun c _ o e => up c o e) hp h4 fun c o c1 c2 c3 e => up c o (sc.extBut _ _ c3 (sb.extBut _ _ c2 (sa.extBut _ _ c1 e)))
theorem zh_end {Q : Fin → Shared → Prop} (S : ZipSep2 z TI TO i1 i2 fp1 fp2) (D1 : Draws prog w A i1 fp1 n1 P1 St1) (D2 : Draws prog w A i2 fp2 n2 P2 St2)
    (hz : IsZipHeld s.heap z TI TO T f) (hT : s.heap.get? T = some oT) (hTI : IsPair s.heap TI (.ref i1) (.ref i2)) (st1 : St1 i s.heap) (st2 : St2 i s.heap) (le1 : i ≤ n1) (le2 : i ≤ n2) (he : i = n1 ∨ i = n2)
    (hE : ∀ h' tk e, (∀ c o, c ≠ z → c ≠ TO → c ≠ i1 → c ≠ i2 → s.heap.get? c = some o → h'.get? c = some o) → (∃ o, h'.get? e = some o ∧ o.cls = .type "StopIteration") → E (.ref e) { s with heap := h', toks := tk }) :
    wpAny (model prog w) A (Builtin.«zip.__next__» ⟨[.ref z], []⟩) Q E s := by
  obtain ⟨h0, g, d, tk0, os⟩ := s
  show wpAny _ _ (field (.ref z) 2 >>= fun _ => _) _ _ _; refine wpAny_bind (wpAny_field (x := .bool false) hz rfl rfl ?_)
  show wpAny _ _ (field (.ref z) 3 >>= fun _ => _) _ _ _; refine wpAny_bind (wpAny_field (x := .ref TI) hz rfl rfl ?_)
  refine wpAny_bind (wpAny_seqItems hTI rfl ?_); show wpAny _ _ (Builtin.SmallTypes.ownedTupleIsFree (.ref z) >>= fun _ => _) _ _ _
  refine wpAny_bind (wpAny_tupleHeld_zip hz hT fun ha za sa => ?_)
  simp only [Bool.false_eq_true, if_false]; refine wpAny_bind ?_
  rw [← Array.forIn_toList]; simp only [List.forIn_cons, List.forIn_nil]
  refine wpAny_bind (wpAny_bind (wpAny_holding ?_)); show wpAny _ _ (Builtin.SmallTypes.nextOf (.ref i1) >>= fun _ => _) _ _ _
  by_cases e1 : i = n1
  · subst e1
    refine wpAny_bind (D1.done ⟨ha, g, d, tk0, os⟩ _ _ (D1.over st1 sa S.zf1) fun hb e sb ex => ?_)
    exact hE hb tk0 e (fun c o c1 _ c2 _ x => sb _ _ c2 (sa.extBut _ _ c1 x)) ex
  · have e2 : i = n2 := he.resolve_left e1
    subst e2
    refine wpAny_bind (D1.item i ⟨ha, g, d, tk0, os⟩ _ _ (by omega) (D1.over st1 sa S.zf1) fun x hb tkb px st1b sb => wpAny_pure ?_); refine wpAny_pure ?_
    refine wpAny_bind (wpAny_bind (wpAny_holding ?_)); show wpAny _ _ (Builtin.SmallTypes.nextOf (.ref i2) >>= fun _ => _) _ _ _
    refine wpAny_bind (D2.done ⟨hb, g, d, tkb, os⟩ _ _ (D2.over (D2.over st2 sa S.zf2) sb S.sep1_2) fun hc e sc ex => ?_)
    exact hE hc tkb e (fun c o c1 _ c2 c3 x => sc _ _ c3 (sb.extBut _ _ c2 (sa.extBut _ _ c1 x))) ex
/-- a zip between two items, whatever it holds; S: the list that is made -/
def ZSt (z TI TO i1 i2 S : Addr) (St1 St2 : Nat → Heap → Prop) (h : Heap) (i : Nat) : Prop :=
  IsPair h TI (.ref i1) (.ref i2) ∧ St1 i h ∧ St2 i h ∧ ((IsZip h z TI TO .none ∧ ∃ x y, IsPair h TO x y) ∨ ∃ T f oT, IsZipHeld h z TI TO T f ∧ h.get? T = some oT ∧ T ≠ S)
theorem zs_item {S0 : Addr} {Q : Option Value → Shared → Prop} (S : ZipSep2 z TI TO i1 i2 fp1 fp2) (D1 : Draws prog w A.in1 i1 fp1 n1 P1 St1) (D2 : Draws prog w A.in1 i2 fp2 n2 P2 St2) (st : ZSt z TI TO i1 i2 S0 St1 St2 s.heap i) (lt1 : i < n1) (lt2 : i < n2) (hS : S0 < s.heap.objs.size)
    (hQ : ∀ x y h' tk, P1 i x → P2 i y → ZSt z TI TO i1 i2 S0 St1 St2 h' (i + 1) → IsPair h' s.heap.objs.size x y → h'.objs.size = s.heap.objs.size + 1 → (∀ c o, c ≠ z → c ≠ TO → c ≠ i1 → c ≠ i2 → s.heap.get? c = some o → h'.get? c = some o) → Q (some (.ref s.heap.objs.size)) { s with heap := h', toks := tk }) :
    wpAny (model prog w) A (pyNext (.ref z)) Q E s := by
  obtain ⟨hTI, s1, s2, hh⟩ := st
  rcases hh with ⟨hz, x0, y0, hTO⟩ | ⟨T, f, oT, hz, hT, nT⟩
  · refine wpAny_pyNext_zipD2_item S D1 D2 hz hTI hTO s1 s2 lt1 lt2 fun x y h' tk px py z1 t1 s1' s2' hp hsz hk => ?_
    exact hQ x y h' tk px py ⟨hk _ _ S.TIz S.TITO S.TIi1 S.TIi2 hTI, s1', s2', .inr ⟨_, false, _, z1, hp, Nat.ne_of_gt hS⟩⟩ hp hsz hk
  · have ty : s.TypeIs (.ref z) "zip" := ⟨_, hz, rfl⟩
    unfold pyNext
    refine wpAny_bind (wpAny_attempt (wpAny_callSpecial?_slot (name := Str.ofString "__next__") ty F.slot_zip_next (wpAny_call_entry F.slot_zip_next ty F.entry_zip_next (zh_item S D1 D2 hz hT hTI s1 s2 lt1 lt2 fun x y h' tk px py z1 s1' s2' hp hsz hk => wpAny_pure ?_) (F.args_zip_next_1 _))))
    have hk4 : ∀ c o, c ≠ z → c ≠ TO → c ≠ i1 → c ≠ i2 → s.heap.get? c = some o → h'.get? c = some o := fun c o c1 _ c2 c3 e => hk c o c1 c2 c3 e
    have hTI' := hk _ _ S.TIz S.TIi1 S.TIi2 hTI
    have : ∃ o, h'.get? T = some o := by
      by_cases q : T = z ∨ T = i1 ∨ T = i2
      · rcases q with q | q | q
        · rw [q]
          exact ⟨_, z1⟩
        · rw [q]
          exact D1.live _ _ s1'
        · rw [q]
          exact D2.live _ _ s2'
      · simp only [not_or] at q
        exact ⟨oT, hk _ _ q.1 q.2.1 q.2.2 hT⟩
    obtain ⟨o, ho⟩ := this
    exact hQ x y h' tk px py ⟨hTI', s1', s2', .inr ⟨T, true, o, z1, ho, nT⟩⟩ hp hsz hk4
theorem zs_end {S0 : Addr} {Q : Option Value → Shared → Prop} (S : ZipSep2 z TI TO i1 i2 fp1 fp2) (D1 : Draws prog w A.in1 i1 fp1 n1 P1 St1) (D2 : Draws prog w A.in1 i2 fp2 n2 P2 St2) (st : ZSt z TI TO i1 i2 S0 St1 St2 s.heap i) (le1 : i ≤ n1) (le2 : i ≤ n2) (he : i = n1 ∨ i = n2)
    (hQ : ∀ h' tk, (∀ c o, c ≠ z → c ≠ TO → c ≠ i1 → c ≠ i2 → s.heap.get? c = some o → h'.get? c = some o) → Q none { s with heap := h', toks := tk }) : wpAny (model prog w) A (pyNext (.ref z)) Q E s := by
  obtain ⟨hTI, s1, s2, hh⟩ := st
  rcases hh with ⟨hz, x0, y0, hTO⟩ | ⟨T, f, oT, hz, hT, nT⟩
  · exact wpAny_pyNext_zipD2_end S D1 D2 hz hTI hTO s1 s2 le1 le2 he hQ
  · have ty : s.TypeIs (.ref z) "zip" := ⟨_, hz, rfl⟩
    unfold pyNext
    refine wpAny_bind (wpAny_attempt (wpAny_callSpecial?_slot (name := Str.ofString "__next__") ty F.slot_zip_next (wpAny_call_entry F.slot_zip_next ty F.entry_zip_next (zh_end S D1 D2 hz hT hTI s1 s2 le1 le2 he fun h' tk e hk ex => ?_) (F.args_zip_next_1 _))))
    obtain ⟨o, ho, hc⟩ := ex
    refine wpAny_bind (wpAny_isInstance (T := "StopIteration") (b := true) ⟨o, ho, hc⟩ isSubtype_stop ?_)
    exact wpAny_pure (hQ _ _ hk)
theorem ZSt.over {S0 : Addr} {h h' : Heap} (D1 : Draws prog w A i1 fp1 n1 P1 St1) (D2 : Draws prog w A i2 fp2 n2 P2 St2) (st : ZSt z TI TO i1 i2 S0 St1 St2 h i) (nS : S0 ≠ z ∧ S0 ≠ TI ∧ S0 ≠ TO ∧ S0 ∉ fp1 ∧ S0 ∉ fp2) (k : ∀ b o, b ≠ S0 → h.get? b = some o → h'.get? b = some o) : ZSt z TI TO i1 i2 S0 St1 St2 h' i := by
  obtain ⟨hTI, s1, s2, hh⟩ := st
  obtain ⟨n1, n2, n3, n4, n5⟩ := nS
  refine ⟨k _ _ n2.symm hTI, D1.frame _ _ _ s1 fun b hb o e => k b o (fun q => n4 (q ▸ hb)) e, D2.frame _ _ _ s2 fun b hb o e => k b o (fun q => n5 (q ▸ hb)) e, ?_⟩
  rcases hh with ⟨hz, x0, y0, hTO⟩ | ⟨T, f, oT, hz, hT, nT⟩
  · exact .inl ⟨k _ _ n1.symm hz, x0, y0, k _ _ n3.symm hTO⟩
  · exact .inr ⟨T, f, oT, k _ _ n1.symm hz, k _ _ nT hT, nT⟩
/-- the tuples made so far: above lo, in ascending order, of the items' pairs -/
structure ZlG (us vs : Array Value) (lo : Addr) (h : Heap) (as : List Addr) : Prop where
  rise : as.Pairwise (· < ·)
  above : ∀ a ∈ as, lo < a
  pairs : ∀ (j : Nat) (a : Addr), as[j]? = some a → ∃ x y, us[j]? = some x ∧ vs[j]? = some y ∧ IsPair h a x y
theorem zip_nolen : typeLookup (.type "zip") "__len__" = pure none := by rw [typeLookup_type, builtinLookup_eq_fast]; kernel_rfl
theorem zip_nohint : typeLookup (.type "zip") "__length_hint__" = pure none := by rw [typeLookup_type, builtinLookup_eq_fast]; kernel_rfl
theorem zl_loop {R : Result → Shared → Prop} {S0 : Addr} {us vs : Array Value} {h1 : Heap} {res : Value} {Sa Sb : Nat → Heap → Prop} (S : ZipSep2 z TI TO i1 i2 fp1 fp2) (D1 : Draws prog w A.in1.in1 i1 fp1 us.size (fun i v => us[i]? = some v) Sa) (D2 : Draws prog w A.in1.in1 i2 fp2 vs.size (fun i v => vs[i]? = some v) Sb)
    (lo : Addr) (nS : S0 ≠ z ∧ S0 ≠ TI ∧ S0 ≠ TO ∧ S0 ∉ fp1 ∧ S0 ∉ fp2) (hlo : S0 ≤ lo ∧ z ≤ lo ∧ TO ≤ lo ∧ i1 ≤ lo ∧ i2 ≤ lo) (hn : min us.size vs.size ≤ sizeLine)
    (hR : ∀ h' tk acc c as, (∀ b o, b ≠ S0 → b ≠ z → b ≠ TO → b ≠ i1 → b ≠ i2 → h1.get? b = some o → h'.get? b = some o) → h'.get? S0 = some { cls := .type "list", dict := none, data := .seq acc c, slots := #[] } → as.length = min us.size vs.size → ZlG us vs lo h' as →
      acc.toList = as.map Value.ref → R (.ok (.ret res)) { s with heap := h', toks := tk }) :
    ∀ (k i : Nat) (h : Heap) (tk c : Nat) (acc : Array Value) (as : List Addr), k + i = min us.size vs.size → ZSt z TI TO i1 i2 S0 Sa Sb h i → (∀ b o, b ≠ S0 → b ≠ z → b ≠ TO → b ≠ i1 → b ≠ i2 → h1.get? b = some o → h.get? b = some o) →
      h.get? S0 = some { cls := .type "list", dict := none, data := .seq acc c, slots := #[] } → acc.toList = as.map Value.ref → as.length = i → ZlG us vs lo h as → lo < h.objs.size →
      codeAny (model prog w) A (.builtin "list.extend.loop" ⟨[.ref S0, .ref z, res], []⟩) R { s with heap := h, toks := tk } := by
  have off : ∀ a, lo < a → a ≠ S0 ∧ a ≠ z ∧ a ≠ TO ∧ a ≠ i1 ∧ a ≠ i2 := fun a ha => ⟨Nat.ne_of_gt (Nat.lt_of_le_of_lt hlo.1 ha), Nat.ne_of_gt (Nat.lt_of_le_of_lt hlo.2.1 ha), Nat.ne_of_gt (Nat.lt_of_le_of_lt hlo.2.2.1 ha), Nat.ne_of_gt (Nat.lt_of_le_of_lt hlo.2.2.2.1 ha), Nat.ne_of_gt (Nat.lt_of_le_of_lt hlo.2.2.2.2 ha)⟩
  have nI1 : S0 ≠ i1 := fun e => nS.2.2.2.1 (e ▸ S.mem1)
  have nI2 : S0 ≠ i2 := fun e => nS.2.2.2.2 (e ▸ S.mem2)
  intro k
  induction k with
  | zero =>
    intro i h tk c acc as hk st hkeep hS hacc hal hG hlt
    refine codeAny_builtin PySem.F.entry_extend_loop ?_
    rw [Around.under_plainId PySem.F.plain_extend_loop _]; show wpAny _ A.in1 (pyNext (.ref z) >>= fun _ => _) _ _ _
    refine wpAny_bind (zs_end (s := { s with heap := h, toks := tk }) (A := A.in1) S D1 D2 st (by omega) (by omega) (by omega) fun h' tk' he => ?_)
    refine wpAny_pure (hR h' tk' acc c as (fun b o b1 b2 b3 b4 b5 e => he b o b2 b3 b4 b5 (hkeep b o b1 b2 b3 b4 b5 e)) (he S0 _ nS.1 nS.2.2.1 nI1 nI2 hS) (by omega) ⟨hG.rise, hG.above, fun j a hj => ?_⟩ hacc)
    obtain ⟨x, y, e1, e2, e3⟩ := hG.pairs j a hj
    obtain ⟨_, o2, o3, o4, o5⟩ := off a (hG.above a (List.mem_of_getElem? hj))
    exact ⟨x, y, e1, e2, he a _ o2 o3 o4 o5 e3⟩
  | succ k ih =>
    intro i h tk c acc as hk st hkeep hS hacc hal hG hlt
    have hsz : acc.size = i := by rw [← Array.length_toList, hacc, List.length_map, hal]
    have hSl : S0 < h.objs.size := Heap.lt_size hS
    refine codeAny_builtin PySem.F.entry_extend_loop ?_
    rw [Around.under_plainId PySem.F.plain_extend_loop _]; show wpAny _ A.in1 (pyNext (.ref z) >>= fun _ => _) _ _ _
    refine wpAny_bind (zs_item (s := { s with heap := h, toks := tk }) (A := A.in1) S D1 D2 st (by omega) (by omega) hSl fun x y h' tk' px py st' hp hz' hkp => ?_)
    dsimp only at px py hp hz' hkp ⊢
    have hS' := hkp S0 _ nS.1 nS.2.2.1 nI1 nI2 hS
    have up : ∀ b o, b ≠ S0 → h'.get? b = some o → (h'.update S0 (Obj.mapSeq (·.push (Value.ref h.objs.size)))).get? b = some o := fun b o hb e => (Heap.get?_update_other _ _ (Ne.symm hb)).trans e
    have newNe : h.objs.size ≠ S0 := Nat.ne_of_gt hSl
    show wpAny _ A.in1 (updateSeq S0 (·.push (Value.ref h.objs.size)) >>= fun _ => _) _ _ _; refine wpAny_bind ?_
    refine wpAny_updateSeq hS' rfl (wpAny_pure ⟨plainId_quiet PySem.F.plain_extend_loop _, ih (i + 1) _ tk' _ (acc.push (Value.ref h.objs.size)) (as ++ [h.objs.size]) (by omega) (ZSt.over D1 D2 st' nS up)
      (fun b o b1 b2 b3 b4 b5 e => up b o b1 (hkp b o b2 b3 b4 b5 (hkeep b o b1 b2 b3 b4 b5 e))) (Heap.get?_update_self _ hS' rfl) (by rw [Array.toList_push, hacc, List.map_append]; rfl) (by rw [List.length_append, hal]; rfl) ⟨?_, ?_, ?_⟩ ?_⟩) (by rw [hsz]; omega) (by show (acc.push (Value.ref h.objs.size)).size ≤ sizeLine + 1; rw [Array.size_push, hsz]; omega)
    · refine List.pairwise_append.mpr ⟨hG.rise, List.pairwise_singleton _ _, fun a ha b hb => ?_⟩
      rw [List.mem_singleton.mp hb]
      obtain ⟨j, hj⟩ := List.mem_iff_getElem?.mp ha
      obtain ⟨_, _, _, _, e⟩ := hG.pairs j a hj
      exact Heap.lt_size e
    · intro a ha
      rcases List.mem_append.mp ha with ha | ha
      · exact hG.above a ha
      · rw [List.mem_singleton.mp ha]
        exact hlt
    · intro j b hj
      by_cases h1 : j < as.length
      · rw [List.getElem?_append_left h1] at hj
        obtain ⟨x', y', e1, e2, e3⟩ := hG.pairs j b hj
        obtain ⟨o1, o2, o3, o4, o5⟩ := off b (hG.above b (List.mem_of_getElem? hj))
        exact ⟨x', y', e1, e2, up b _ o1 (hkp b _ o2 o3 o4 o5 e3)⟩
      · by_cases h2 : j = as.length
        · subst h2
          have hb : h.objs.size = b := by simpa using hj
          subst hb
          rw [hal]
          exact ⟨x, y, px, py, up _ _ newNe hp⟩
        · rw [List.getElem?_eq_none (by rw [List.length_append, List.length_singleton]; omega)] at hj
          cases hj
    · have e : (h'.update S0 (Obj.mapSeq (·.push (Value.ref h.objs.size)))).get? h.objs.size = _ := up _ _ newNe hp
      exact Nat.lt_trans hlt (Heap.lt_size e)
theorem zl_extend {R : Result → Shared → Prop} {S0 : Addr} {us vs : Array Value} {res : Value} {c0 : Nat} {Sa Sb : Nat → Heap → Prop} (S : ZipSep2 z TI TO i1 i2 fp1 fp2) (D1 : Draws prog w A.in1.in1 i1 fp1 us.size (fun i v => us[i]? = some v) Sa) (D2 : Draws prog w A.in1.in1 i2 fp2 vs.size (fun i v => vs[i]? = some v) Sb)
    (nS : S0 ≠ z ∧ S0 ≠ TI ∧ S0 ≠ TO ∧ S0 ∉ fp1 ∧ S0 ∉ fp2) (hlo : z ≤ S0 ∧ TO ≤ S0 ∧ i1 ≤ S0 ∧ i2 ≤ S0) (hn : min us.size vs.size ≤ sizeLine) (ty : s.TypeIs (.ref z) "zip") (hz : IsZip s.heap z TI TO .none)
    (st : ZSt z TI TO i1 i2 S0 Sa Sb s.heap 0) (hS : s.heap.get? S0 = some { cls := .type "list", data := .seq #[] c0 }) (hlt : S0 < s.heap.objs.size)
    (hR : ∀ h' tk acc c as, (∀ b o, b ≠ S0 → b ≠ z → b ≠ TO → b ≠ i1 → b ≠ i2 → s.heap.get? b = some o → h'.get? b = some o) → h'.get? S0 = some { cls := .type "list", dict := none, data := .seq acc c, slots := #[] } → as.length = min us.size vs.size → ZlG us vs S0 h' as →
      acc.toList = as.map Value.ref → R (.ok (.ret res)) { s with heap := h', toks := tk }) :
    wpAny (model prog w) A.in1 (Builtin.List.listExtendWith (.ref S0) (.ref z) res)
      (fun fin s' => match fin with | .done f => R (.ok f) s' | .again c' => c'.quiet = true ∧ codeAny (model prog w) A c' R s') (fun e s' => R (.error e) s') s := by
  have e1 : Builtin.List.listSameRef (.ref S0) (.ref z) = false := by simp [Builtin.List.listSameRef, nS.1]
  have e2 : (Value.type "zip" == Value.type "list") = false := by decide
  have e3 : (Value.type "zip" == Value.type "tuple") = false := by decide
  unfold Builtin.List.listExtendWith; refine wpAny_bind (wpAny_typeOf ty ?_)
  simp only [e1, e2, e3, Bool.or_false, Bool.false_eq_true, if_false]; refine wpAny_bind (wpAny_pyIter_zip hz ?_)
  refine wpAny_bind (wpAny_holding ?_); unfold Builtin.List.listLengthHint
  refine wpAny_bind (wpAny_specialOf ty zip_nolen ?_); show wpAny _ A.in1 (specialOf (Value.ref z) (Str.ofString "__length_hint__") >>= fun _ => _) _ _ _
  refine wpAny_bind (wpAny_specialOf ty zip_nohint ?_); refine wpAny_pure ?_
  show wpAny _ A.in1 (rule "list.extend.makes-room" >>= fun _ => Builtin.List.listTouch (.ref S0) >>= fun _ => again (.builtin "list.extend.loop" ⟨[.ref S0, .ref z, res], []⟩)) _ _ _
  refine wpAny_bind (wpAny_rule ?_); refine wpAny_bind ?_
  show wpAny _ A.in1 (updateSeq S0 (·.push .none) >>= fun _ => updateSeq S0 (·.pop)) _ _ _; refine wpAny_bind (wpAny_updateSeq hS rfl ?_)
  have g2 := Heap.get?_update_self (Obj.mapSeq (·.push Value.none)) hS rfl
  refine wpAny_updateSeq (hz := by seq_fits) g2 rfl ?_
  have g3 := Heap.get?_update_self (Obj.mapSeq (·.pop)) g2 rfl
  have oth : ∀ b o, b ≠ S0 → s.heap.get? b = some o → ((s.heap.update S0 (Obj.mapSeq (·.push Value.none))).update S0 (Obj.mapSeq (·.pop))).get? b = some o := fun b o hb e => (Heap.get?_update_other _ _ (Ne.symm hb)).trans ((Heap.get?_update_other _ _ (Ne.symm hb)).trans e)
  refine wpAny_pure ⟨plainId_quiet PySem.F.plain_extend_loop _, zl_loop (h1 := s.heap) S D1 D2 S0 nS ⟨Nat.le_refl _, hlo⟩ hn hR (min us.size vs.size) 0 _ _ _ #[] [] rfl (ZSt.over D1 D2 st nS oth) (fun b o hb _ _ _ _ e => oth b o hb e) g3 rfl rfl ⟨List.Pairwise.nil, (fun _ ha => nomatch ha), fun j a hj => by simp at hj⟩ ?_⟩
  exact Heap.lt_size g3
/-- list(z): z a zip that was just made -/
theorem zl_call {Q : Value → Shared → Prop} {us vs : Array Value} {Sa Sb : Nat → Heap → Prop} (S : ZipSep2 z TI TO i1 i2 fp1 fp2) (D1 : Draws prog w A.in1.in1.in1 i1 fp1 us.size (fun i v => us[i]? = some v) Sa) (D2 : Draws prog w A.in1.in1.in1 i2 fp2 vs.size (fun i v => vs[i]? = some v) Sb)
    (hn : min us.size vs.size ≤ sizeLine) (hz : IsZip s.heap z TI TO .none) (hTI : IsPair s.heap TI (.ref i1) (.ref i2)) (hTO : ∃ x y, IsPair s.heap TO x y) (s1 : Sa 0 s.heap) (s2 : Sb 0 s.heap) (f1 : ∀ b ∈ fp1, b < s.heap.objs.size) (f2 : ∀ b ∈ fp2, b < s.heap.objs.size)
    (hQ : ∀ h' tk acc c as, (∀ b o, b ≠ z → b ≠ TO → b ≠ i1 → b ≠ i2 → s.heap.get? b = some o → h'.get? b = some o) → h'.get? s.heap.objs.size = some { cls := .type "list", dict := none, data := .seq acc c, slots := #[] } → as.length = min us.size vs.size → ZlG us vs s.heap.objs.size h' as →
      acc.toList = as.map Value.ref → Q (.ref s.heap.objs.size) { s with heap := h', toks := tk }) :
    wpAny (model prog w) A (call (.type "list") [.ref z]) Q E s := by
  obtain ⟨x0, y0, hTO⟩ := hTO
  obtain ⟨h0, g, d, tk0, os⟩ := s
  have lz : z < h0.objs.size := Heap.lt_size hz
  have lTI : TI < h0.objs.size := Heap.lt_size hTI
  have lTO : TO < h0.objs.size := Heap.lt_size hTO
  have li1 := f1 i1 S.mem1
  have li2 := f2 i2 S.mem2
  have nS : h0.objs.size ≠ z ∧ h0.objs.size ≠ TI ∧ h0.objs.size ≠ TO ∧ h0.objs.size ∉ fp1 ∧ h0.objs.size ∉ fp2 := ⟨Nat.ne_of_gt lz, Nat.ne_of_gt lTI, Nat.ne_of_gt lTO, fun q => Nat.lt_irrefl _ (f1 _ q), fun q => Nat.lt_irrefl _ (f2 _ q)⟩
  refine callType_codes (Q₁ := fun obj t => obj = .ref h0.objs.size ∧ t = ⟨h0.push { cls := .type "list", data := .seq #[] }, g, d, tk0, os⟩) F.called_list (F.typeCall_list_1 _) F.entry_list_init (code_list_new _ ⟨rfl, rfl⟩) fun obj t ht => ?_
  obtain ⟨rfl, rfl⟩ := ht
  have gS : (h0.push { cls := .type "list", data := .seq #[] }).get? h0.objs.size = some { cls := .type "list", data := .seq #[] } := Heap.get?_push_size _ rfl
  have up : ∀ b o, h0.get? b = some o → (h0.push { cls := .type "list", data := .seq #[] }).get? b = some o := fun b o e => Heap.get?_push_of_some _ e
  refine ⟨⟨_, gS, rfl⟩, F.args_list_init_2 _ _, ?_⟩
  show wpAny _ _ (do let old ← Builtin.List.listItems (.ref h0.objs.size); Builtin.List.listUpdate (.ref h0.objs.size) (fun _ => #[]); letGo old.toList.reverse; Builtin.List.listExtendWith (.ref h0.objs.size) (.ref z) .none) _ _ _
  refine wpAny_bind ?_; unfold Builtin.List.listItems
  refine wpAny_bind (wpAny_seqItems gS rfl (wpAny_pure ?_))
  show wpAny _ _ (updateSeq h0.objs.size (fun _ => #[]) >>= fun _ => letGo (#[] : Array Value).toList.reverse >>= fun _ => Builtin.List.listExtendWith (.ref h0.objs.size) (.ref z) .none) _ _ _
  refine wpAny_bind (wpAny_updateSeq gS rfl ?_)
  have g2 := Heap.get?_update_self (Obj.mapSeq (fun _ => (#[] : Array Value))) gS rfl
  have oth : ∀ b o, b ≠ h0.objs.size → h0.get? b = some o → ((h0.push { cls := .type "list", data := .seq #[] }).update h0.objs.size (Obj.mapSeq (fun _ => (#[] : Array Value)))).get? b = some o := fun b o hb e => (Heap.get?_update_other _ _ (Ne.symm hb)).trans (up b o e)
  have low : ∀ b o, h0.get? b = some o → b ≠ h0.objs.size := fun b o e => Nat.ne_of_lt (Heap.lt_size e)
  have zs : ZSt z TI TO i1 i2 h0.objs.size Sa Sb h0 0 := ⟨hTI, s1, s2, .inl ⟨hz, x0, y0, hTO⟩⟩
  have z2 := oth _ _ (Nat.ne_of_lt lz) hz
  refine wpAny_bind (wpAny_letGo ?_)
  refine zl_extend (A := A.in1) S D1 D2 nS ⟨Nat.le_of_lt lz, Nat.le_of_lt lTO, Nat.le_of_lt li1, Nat.le_of_lt li2⟩ hn ⟨_, z2, rfl⟩ z2 (ZSt.over D1 D2 zs nS oth) g2 (Heap.lt_size g2) fun h' tk acc c as hk hS' hl hG hacc => ?_
  exact ⟨rfl, hQ h' tk acc c as (fun b o b2 b3 b4 b5 e => hk b o (low b o e) b2 b3 b4 b5 (oth b o (low b o e) e)) hS' hl hG hacc⟩
end
/-! the rule -/
def tListZip (k1 k2 : Bool) (K : PySem.W.Frag) (ta : TA) : TE := fun σ H Q => ta σ H fun vs H1 => ∃ a b xs ys, vs = [.ref a, .ref b] ∧ SqK k1 K H1 a xs ∧ SqK k2 K H1 b ys ∧
  ∀ H' l (ts : List Addr), Same H1 H' → H1 l = none → H' l = some (.lst (ts.map V.ref)) → Paired (fun (t : Addr) (p : V × V) => H' t = some (.tup [p.1, p.2])) ts (xs.zip ys) → Q (.ref l) H'
def putZ : Hp → List Addr → List (V × V) → Hp
  | H, a :: as, p :: ps => putZ (upd H a (.tup [p.1, p.2])) as ps
  | H, _, _ => H
theorem putZ_off {b : Addr} : ∀ (as : List Addr) (ps : List (V × V)) (H : Hp), b ∉ as → putZ H as ps b = H b
  | [], _, _, _ => rfl
  | _ :: _, [], _, _ => rfl
  | a :: as, p :: ps, H, h => by
    have h' := not_or.mp (fun q => h (List.mem_cons.mpr q))
    show putZ (upd H a _) as ps b = H b
    rw [putZ_off as ps _ h'.2, upd_ne h'.1]
theorem putZ_at : ∀ (as : List Addr) (ps : List (V × V)) (H : Hp), as.length = ps.length → as.Nodup → Paired (fun (t : Addr) (p : V × V) => putZ H as ps t = some (.tup [p.1, p.2])) as ps
  | [], [], _, _, _ => .nil
  | [], _ :: _, _, h, _ => by cases h
  | _ :: _, [], _, h, _ => by cases h
  | a :: as, p :: ps, H, h, hn => by
    obtain ⟨n1, n2⟩ := List.nodup_cons.mp hn
    refine .cons ?_ (putZ_at as ps (upd H a (.tup [p.1, p.2])) (Nat.succ.inj h) n2)
    show putZ (upd H a (.tup [p.1, p.2])) as ps a = _
    rw [putZ_off as ps _ n1, upd_same]
theorem paired_at {α β : Type} {F : α → β → Prop} : ∀ {xs : List α} {ys : List β}, Paired F xs ys → ∀ {i : Nat} {x : α}, xs[i]? = some x → ∃ y, ys[i]? = some y ∧ F x y
  | _, _, .nil, i, x, h => by cases h
  | _, _, .cons r t, 0, x, h => by
    cases h
    exact ⟨_, rfl, r⟩
  | _, _, .cons r t, i + 1, x, h => paired_at (i := i) t h
theorem vals_of_refs : ∀ as : List Addr, Vals (as.map V.ref) (as.map Value.ref)
  | [] => .nil
  | _ :: as => .cons rfl (vals_of_refs as)
section
variable {X : Cx} {p pz pos cpos : Pos} {e e2 : Expr} {ta : TA}
theorem pe_listZip (k1 k2 : Bool) {K : PySem.W.Frag} (hK : X.K = K) (hc : X.calm = true) (hg : Gl X "list") (hm : X.mg "list" = none) (hgz : Gl X "zip") (hmz : X.mg "zip" = none) (ha : PA X [e, e2] ta)
    (hs : starEach [e, e2] X.env = (false, eval e X.env) :: starEach [e2] X.env := by rfl) (hpl : (backTo cpos (starEach [e2] X.env)).any (·.1) = false := by rfl)
    (hs2 : starEach [.Call (.Name "zip" pz) [e, e2] [] cpos] X.env = (false, eval (.Call (.Name "zip" pz) [e, e2] [] cpos) X.env) :: starEach [] X.env := by rfl) :
    PE X (.Call (.Name "list" p) [.Call (.Name "zip" pz) [e, e2] [] cpos] [] pos) (tListZip k1 k2 K ta) := by
  subst hK
  refine ⟨fun pins s σ H Q I h => ?_⟩
  refine wpAny_Call_Name_kw (ld_blt I hg hm (show bootBuiltins "list" = some (.type "list") by decide +kernel) (PyProof.Rows.callWith_type1 ?_ hs2 rfl))
  rw [hs2]; show wpAny _ _ (spliced ((false, eval (.Call (.Name "zip" pz) [e, e2] [] cpos) X.env) :: backTo pos (starEach [] X.env))) _ _ s
  refine Calls.spliced_cons ?_
  refine Call_ (ld_blt I hgz hmz PyProof.Rows.boot_zip (PyProof.Rows.callWith_type1 (thn (ha.run cpos pins s σ H _ I h) fun us s1 hh => ?_) hs hpl))
  obtain ⟨vs, H1, I1, r1, a, b, xs, ys, rfl, qx, qy, q⟩ := hh
  obtain ⟨u1, u2, rfl, ru, rv⟩ := vals2 r1
  cases (show u1 = Value.ref a from ru)
  cases (show u2 = Value.ref b from rv)
  obtain ⟨us, rus, pu, lu⟩ := seqK I1 qx
  obtain ⟨ws, rws, pw, lw⟩ := seqK I1 qy
  have lus := rus.length
  have lws := rws.length
  refine zip_begins2 (bgK k1 a us.toArray) (bgK k2 b ws.toArray) pu pw fun h' hz hTI hTO o1 o2 hsz hk => ?_
  refine Calls.spliced_nil ?_
  have D := PySem.W.ktu_apart s1.heap.objs.size a b pu.lt pw.lt
  have hh : X.A.in1.in1.in1.handled = none := I1.ok.hd hc
  have lo4 : ∀ c, c ∈ [s1.heap.objs.size, a] ∨ c ∈ [s1.heap.objs.size + 1, b] → c < h'.objs.size := fun c hx => by
    have la : a < s1.heap.objs.size := pu.lt
    have lb : b < s1.heap.objs.size := pw.lt
    rw [hsz]
    simp only [List.mem_cons, List.not_mem_nil, or_false] at hx
    rcases hx with (rfl | rfl) | (rfl | rfl)
    · exact Nat.lt_add_of_pos_right (by decide)
    · exact Nat.lt_of_lt_of_le la (Nat.le_add_right _ _)
    · exact Nat.add_lt_add_left (by decide) _
    · exact Nat.lt_of_lt_of_le lb (Nat.le_add_right _ _)
  have ez : (xs.zip ys).length = min us.toArray.size ws.toArray.size := by
    rw [List.length_zip, List.size_toArray, List.size_toArray, lus, lws]
  refine zl_call (s := { s1 with heap := h' }) (sepK D) (drK (prog := X.prog) (w := X.w) k1 hh D.l1i1 us.toArray) (drK (prog := X.prog) (w := X.w) k2 hh D.l2i2 ws.toArray) (by rw [← ez, List.length_zip]; omega) hz hTI ⟨_, _, hTO⟩
    ⟨itK0 o1, pu.at fun o => hk a o⟩ ⟨itK0 o2, pw.at fun o => hk b o⟩ (fun c hx => lo4 c (.inl hx)) (fun c hx => lo4 c (.inr hx)) fun h2 tk acc c as hk2 hS hl hG hacc => ?_
  have kp0 : ∀ c o, s1.heap.get? c = some o → h2.get? c = some o := fun c o ho => by
    have lc : c < s1.heap.objs.size := Heap.lt_size ho
    refine hk2 c o ?_ ?_ ?_ ?_ (hk c o ho)
    · exact Nat.ne_of_lt (Nat.lt_of_lt_of_le lc (Nat.le_add_right _ _))
    · exact Nat.ne_of_lt (Nat.lt_of_lt_of_le lc (Nat.le_add_right _ _))
    · exact Nat.ne_of_lt lc
    · exact Nat.ne_of_lt (Nat.lt_of_lt_of_le lc (Nat.le_add_right _ _))
  have lN : s1.heap.objs.size ≤ h'.objs.size := by
    rw [hsz]
    exact Nat.le_add_right _ _
  have nl : h'.objs.size ∉ as := fun z => Nat.lt_irrefl _ (hG.above _ z)
  have nd : as.Nodup := List.Pairwise.imp (fun {x y} (q : x < y) => Nat.ne_of_lt q) hG.rise
  have hi : ∀ t ∈ as, s1.heap.objs.size ≤ t := fun t ht => Nat.le_trans lN (Nat.le_of_lt (hG.above t ht))
  have fr : ∀ t ∈ as, H1 t = none := fun t ht => I1.hok.fresh (hi t ht)
  have frl : H1 h'.objs.size = none := I1.hok.fresh lN
  have pz := putZ_at as (xs.zip ys) (upd H1 h'.objs.size (.lst (as.map V.ref))) (by rw [hl, ez]) nd
  have off : ∀ t, t ∉ as → t ≠ h'.objs.size → putZ (upd H1 h'.objs.size (.lst (as.map V.ref))) as (xs.zip ys) t = H1 t := fun t n1 n2 => by rw [putZ_off as _ _ n1, upd_ne n2]
  have low : ∀ t o, s1.heap.get? t = some o → t ∉ as ∧ t ≠ h'.objs.size := fun t o ho => ⟨fun z => absurd (Heap.lt_size ho) (Nat.not_lt.mpr (hi t z)), Nat.ne_of_lt (Nat.lt_of_lt_of_le (Heap.lt_size ho) lN)⟩
  have kp : Same H1 (putZ (upd H1 h'.objs.size (.lst (as.map V.ref))) as (xs.zip ys)) := fun t o ho => by
    rw [off t (fun z => by rw [fr t z] at ho; cases ho) (fun z => by rw [z, frl] at ho; cases ho)]
    exact ho
  have atl : putZ (upd H1 h'.objs.size (.lst (as.map V.ref))) as (xs.zip ys) h'.objs.size = some (.lst (as.map V.ref)) := by rw [putZ_off as _ _ nl, upd_same]
  have J : Inv X pins σ (putZ (upd H1 h'.objs.size (.lst (as.map V.ref))) as (xs.zip ys)) ⟨h2, s1.gens, s1.drawn, tk, s1.os⟩ := by
    refine I1.call' (ch := []) rfl ⟨fun t o ho _ _ _ => kp0 t o ho, fun t o ho _ _ _ => ⟨o.slots, kp0 t o ho⟩, fun t o ho n _ => ?_, fun t o ho _ => ⟨o, kp0 t o ho⟩, fun t _ ho => kp t _ ho, fun t _ _ ho => kp t _ ho, fun t ps ho => ⟨#[], by rw [kp t _ ho]; simp⟩⟩ (fun t u ho => ?_) I1.bare fun t z => by simp at z
    · obtain ⟨z1, z2⟩ := low t o ho
      rw [off t z1 z2]
      exact n
    · by_cases ht : t ∈ as
      · obtain ⟨j, hj⟩ := List.mem_iff_getElem?.mp ht
        obtain ⟨pr, p1, p2⟩ := paired_at pz hj
        rw [p2] at ho
        cases ho
        obtain ⟨x, y, g1, g2, g3⟩ := hG.pairs j t hj
        obtain ⟨q1, q2⟩ := List.getElem?_zip_eq_some.mp p1
        obtain ⟨u, a1, a2⟩ := rus.get q1
        obtain ⟨v, b1, b2⟩ := rws.get q2
        have ex : x = u := by
          have : us.toArray[j]? = some u := by simpa using a1
          rw [this] at g1
          exact (Option.some.inj g1).symm
        have ey : y = v := by
          have : ws.toArray[j]? = some v := by simpa using b1
          rw [this] at g2
          exact (Option.some.inj g2).symm
        subst ex ey
        exact ⟨Nat.le_of_ble_eq_true rfl, [x, y], .cons a2 (.cons b2 .nil), ⟨_, g3, rfl, _, rfl⟩⟩
      · by_cases ht2 : t = h'.objs.size
        · subst ht2
          rw [atl] at ho
          cases ho
          refine ⟨by rw [List.length_map, hl, ← ez, List.length_zip]; omega, acc.toList, c, by rw [hacc]; exact vals_of_refs as, ?_⟩
          rw [Array.toArray_toList]
          exact hS
        · rw [off t ht ht2] at ho
          exact (I1.hok t u ho).stay (fun d v _ y => kp0 d v y) (fun d y => kp d _ y) fun d _ y => kp d _ y
  exact ⟨V.ref h'.objs.size, _, J, rfl, q _ _ as kp frl atl pz⟩
end

/-! ### numbers modulo m -/
theorem pow_emod (a m : Int) : ∀ n : Nat, (a % m) ^ n % m = a ^ n % m
  | 0 => by rw [Int.pow_zero, Int.pow_zero]
  | n + 1 => by
    rw [Int.pow_succ, Int.pow_succ, Int.mul_emod, pow_emod a m n, Int.emod_emod, ← Int.mul_emod]
theorem mul_emod_l (a b m : Int) : (a % m) * b % m = a * b % m := by
  rw [Int.mul_emod, Int.emod_emod, ← Int.mul_emod]
theorem mul_emod_r (a b m : Int) : a * (b % m) % m = a * b % m := by
  rw [Int.mul_emod, Int.emod_emod, ← Int.mul_emod]
theorem emod_bd {a m : Int} (h : 0 < m) : 0 ≤ a % m ∧ a % m < m := ⟨Int.emod_nonneg _ (by omega), Int.emod_lt_of_pos _ h⟩
theorem sq_pow (s : Int) : ∀ k : Nat, (s * s) ^ k = s ^ (2 * k)
  | 0 => by rw [Int.pow_zero, Int.pow_zero]
  | k + 1 => by
    rw [Int.pow_succ, sq_pow s k, show 2 * (k + 1) = 2 * k + 1 + 1 by omega, Int.pow_succ, Int.pow_succ, Int.mul_assoc]
theorem power_odd {r s m t : Int} {n : Nat} (h : r * s ^ n % m = t % m) (o : n % 2 = 1) : (r * s % m) * (s * s % m) ^ (n / 2) % m = t % m := by
  rw [mul_emod_l, ← mul_emod_r, pow_emod, mul_emod_r, sq_pow, Int.mul_assoc, ← h]
  congr 1
  rw [show n = 2 * (n / 2) + 1 by omega, show 2 * ((2 * (n / 2) + 1) / 2) = 2 * (n / 2) by omega, Int.pow_succ, Int.mul_comm s]
theorem power_even {r s m t : Int} {n : Nat} (h : r * s ^ n % m = t % m) (o : ¬ n % 2 = 1) : r * (s * s % m) ^ (n / 2) % m = t % m := by
  rw [← mul_emod_r, pow_emod, mul_emod_r, sq_pow, ← h]
  congr 2
  rw [show 2 * (n / 2) = n by omega]

/-! ### steps -/
theorem iteD {p A B : Prop} [Decidable p] (h1 : p → A) (h2 : ¬ p → B) : if decide p = true then A else B := by
  by_cases h : p
  · rw [if_pos (decide_eq_true h)]
    exact h1 h
  · rw [if_neg (by rw [decide_eq_false h]; exact Bool.false_ne_true)]
    exact h2 h
theorem iteN {p A B : Prop} [Decidable p] (h1 : ¬ p → A) (h2 : p → B) : if (!decide p) = true then A else B := by
  by_cases h : p
  · rw [if_neg (by rw [decide_eq_true h]; decide)]
    exact h2 h
  · rw [if_pos (by rw [decide_eq_false h]; rfl)]
    exact h1 h
theorem iteB {c : Bool} {A B : Prop} (h1 : c = true → A) (h2 : c = false → B) : if c = true then A else B := by
  cases c with
  | true => exact iteT (h1 rfl)
  | false => exact iteF (h2 rfl)
theorem iteBn {c : Bool} {A B : Prop} (h1 : c = false → A) (h2 : c = true → B) : if (!c) = true then A else B := by
  cases c with
  | true => exact iteF (h2 rfl)
  | false => exact iteT (h1 rfl)
theorem kit_NoneType_tuple {K : PySem.W.Frag} : PySem.W.kitOne K (.type "NoneType") (.type "tuple") = some false := kit_ty (by decide +kernel)
theorem kit_NoneType_list {K : PySem.W.Frag} : PySem.W.kitOne K (.type "NoneType") (.type "list") = some false := kit_ty (by decide +kernel)
theorem kit_NoneType_bool {K : PySem.W.Frag} : PySem.W.kitOne K (.type "NoneType") (.type "bool") = some false := kit_ty (by decide +kernel)
theorem kit_NoneType_int {K : PySem.W.Frag} : PySem.W.kitOne K (.type "NoneType") (.type "int") = some false := kit_ty (by decide +kernel)
theorem kit_NoneType_str {K : PySem.W.Frag} : PySem.W.kitOne K (.type "NoneType") (.type "str") = some false := kit_ty (by decide +kernel)
theorem kit_bool_tuple {K : PySem.W.Frag} : PySem.W.kitOne K (.type "bool") (.type "tuple") = some false := kit_ty (by decide +kernel)
theorem kit_bool_list {K : PySem.W.Frag} : PySem.W.kitOne K (.type "bool") (.type "list") = some false := kit_ty (by decide +kernel)
theorem kit_bool_bool {K : PySem.W.Frag} : PySem.W.kitOne K (.type "bool") (.type "bool") = some true := kit_ty (by decide +kernel)
theorem kit_bool_int {K : PySem.W.Frag} : PySem.W.kitOne K (.type "bool") (.type "int") = some true := kit_ty (by decide +kernel)
theorem kit_bool_str {K : PySem.W.Frag} : PySem.W.kitOne K (.type "bool") (.type "str") = some false := kit_ty (by decide +kernel)
theorem kit_int_tuple {K : PySem.W.Frag} : PySem.W.kitOne K (.type "int") (.type "tuple") = some false := kit_ty (by decide +kernel)
theorem kit_int_list {K : PySem.W.Frag} : PySem.W.kitOne K (.type "int") (.type "list") = some false := kit_ty (by decide +kernel)
theorem kit_int_bool {K : PySem.W.Frag} : PySem.W.kitOne K (.type "int") (.type "bool") = some false := kit_ty (by decide +kernel)
theorem kit_int_int {K : PySem.W.Frag} : PySem.W.kitOne K (.type "int") (.type "int") = some true := kit_ty (by decide +kernel)
theorem kit_int_str {K : PySem.W.Frag} : PySem.W.kitOne K (.type "int") (.type "str") = some false := kit_ty (by decide +kernel)
theorem kit_str_tuple {K : PySem.W.Frag} : PySem.W.kitOne K (.type "str") (.type "tuple") = some false := kit_ty (by decide +kernel)
theorem kit_str_list {K : PySem.W.Frag} : PySem.W.kitOne K (.type "str") (.type "list") = some false := kit_ty (by decide +kernel)
theorem kit_str_bool {K : PySem.W.Frag} : PySem.W.kitOne K (.type "str") (.type "bool") = some false := kit_ty (by decide +kernel)
theorem kit_str_int {K : PySem.W.Frag} : PySem.W.kitOne K (.type "str") (.type "int") = some false := kit_ty (by decide +kernel)
theorem kit_str_str {K : PySem.W.Frag} : PySem.W.kitOne K (.type "str") (.type "str") = some true := kit_ty (by decide +kernel)
theorem kit_list_tuple {K : PySem.W.Frag} : PySem.W.kitOne K (.type "list") (.type "tuple") = some false := kit_ty (by decide +kernel)
theorem kit_list_list {K : PySem.W.Frag} : PySem.W.kitOne K (.type "list") (.type "list") = some true := kit_ty (by decide +kernel)
theorem kit_list_bool {K : PySem.W.Frag} : PySem.W.kitOne K (.type "list") (.type "bool") = some false := kit_ty (by decide +kernel)
theorem kit_list_int {K : PySem.W.Frag} : PySem.W.kitOne K (.type "list") (.type "int") = some false := kit_ty (by decide +kernel)
theorem kit_list_str {K : PySem.W.Frag} : PySem.W.kitOne K (.type "list") (.type "str") = some false := kit_ty (by decide +kernel)
theorem kit_tuple_tuple {K : PySem.W.Frag} : PySem.W.kitOne K (.type "tuple") (.type "tuple") = some true := kit_ty (by decide +kernel)
theorem kit_tuple_list {K : PySem.W.Frag} : PySem.W.kitOne K (.type "tuple") (.type "list") = some false := kit_ty (by decide +kernel)
theorem kit_tuple_bool {K : PySem.W.Frag} : PySem.W.kitOne K (.type "tuple") (.type "bool") = some false := kit_ty (by decide +kernel)
theorem kit_tuple_int {K : PySem.W.Frag} : PySem.W.kitOne K (.type "tuple") (.type "int") = some false := kit_ty (by decide +kernel)
theorem kit_tuple_str {K : PySem.W.Frag} : PySem.W.kitOne K (.type "tuple") (.type "str") = some false := kit_ty (by decide +kernel)
theorem iteCT {c : Bool} {A B : Prop} (hc : c = true) (h : A) : if c = true then A else B := by
  rw [if_pos hc]
  exact h
theorem iteCF {c : Bool} {A B : Prop} (hc : c = false) (h : B) : if c = true then A else B := by
  rw [if_neg (by rw [hc]; exact Bool.false_ne_true)]
  exact h
theorem propOnly {p : Prop} (h : p) : p := h
/-- where the walk is to stop: between two turns of a loop -/
inductive At (p : Prop) : Prop where
  | of (h : p)
  | also (h : p)
theorem At.out {p : Prop} : At p → p
  | .of h => h
  | .also h => h
theorem len_size {n : Nat} (h : n ≤ 100000) : n < sizeLine := Nat.lt_of_le_of_lt h (by decide)

/-! ### heaps -/
theorem same_new {H : Hp} {p : Addr} {o : HO} (h : H p = none) : Same H (upd H p o) := fun b x e => by
  rw [upd_ne (ne_of_none e h)]
  exact e
/-- a new object of our own is changed -/
theorem same_mut {H0 H : Hp} {p : Addr} {o : HO} (s : Same H0 H) (h : H0 p = none) : Same H0 (upd H p o) := fun b x e => by
  rw [upd_ne (ne_of_none e h)]
  exact s b x e
/-- the list of a pool, by its look: a reference, then an int -/
def poolV : List V → Bool
  | .ref _ :: .int _ :: _ => true
  | _ => false
def poolO : HO → Bool
  | .lst xs => poolV xs
  | _ => false
/-- all that was tracked is as it was, but for pools -/
def Keep (H H' : Hp) : Prop := ∀ b o, H b = some o → poolO o = false → H' b = some o
theorem Keep.refl (H : Hp) : Keep H H := fun _ _ h _ => h
theorem Keep.trans {H H1 H2 : Hp} (a : Keep H H1) (b : Keep H1 H2) : Keep H H2 := fun c o h p => b c o (a c o h p) p
theorem keep_same {H H' : Hp} (s : Same H H') : Keep H H' := fun b o h _ => s b o h
theorem keep_new {H : Hp} {p : Addr} {o : HO} (h : H p = none) : Keep H (upd H p o) := keep_same (same_new h)
theorem keep_mut {H0 H : Hp} {p : Addr} {o : HO} (s : Keep H0 H) (h : H0 p = none) : Keep H0 (upd H p o) := fun b x e f => by
  rw [upd_ne (ne_of_none e h)]
  exact s b x e f
theorem keep_pool {H0 H : Hp} {p : Addr} {o u : HO} (s : Keep H0 H) (h : H0 p = some u) (hu : poolO u = true) : Keep H0 (upd H p o) := fun b x e f => by
  have n : b ≠ p := fun z => by
    subst z
    rw [h] at e
    cases e
    rw [hu] at f
    cases f
  rw [upd_ne n]
  exact s b x e f
/-! ### data -/
mutual
inductive Rp (H : Hp) : V → PyData → Prop
  | non : Rp H .non .none
  | bl (b : Bool) : Rp H (.bl b) (.bool b)
  | int (i : Int) : Rp H (.int i) (.int i)
  | str (x : Str) : Rp H (.str x) (.str x)
  | lst {a : Addr} {xs : List V} {ds : List PyData} : H a = some (.lst xs) → poolV xs = false → RpAll H xs ds → Rp H (.ref a) (.list ds)
  | tup {a : Addr} {xs : List V} {ds : List PyData} : H a = some (.tup xs) → RpAll H xs ds → Rp H (.ref a) (.tuple ds)
inductive RpAll (H : Hp) : List V → List PyData → Prop
  | nil : RpAll H [] []
  | cons {v : V} {vs : List V} {d : PyData} {ds : List PyData} : Rp H v d → RpAll H vs ds → RpAll H (v :: vs) (d :: ds)
end
mutual
theorem Rp.keep {H H' : Hp} (k : Keep H H') : ∀ {v : V} {d : PyData}, Rp H v d → Rp H' v d
  | _, _, .non => .non
  | _, _, .bl b => .bl b
  | _, _, .int i => .int i
  | _, _, .str x => .str x
  | _, _, .lst h p r => .lst (k _ _ h p) p (RpAll.keep k r)
  | _, _, .tup h r => .tup (k _ _ h rfl) (RpAll.keep k r)
theorem RpAll.keep {H H' : Hp} (k : Keep H H') : ∀ {vs : List V} {ds : List PyData}, RpAll H vs ds → RpAll H' vs ds
  | _, _, .nil => .nil
  | _, _, .cons a r => .cons (Rp.keep k a) (RpAll.keep k r)
end
theorem RpAll.length {H : Hp} : ∀ {vs : List V} {ds : List PyData}, RpAll H vs ds → vs.length = ds.length
  | _, _, .nil => rfl
  | _, _, .cons _ r => congrArg (· + 1) (RpAll.length r)
theorem RpAll.get {H : Hp} : ∀ {vs : List V} {ds : List PyData} {i : Nat} {d : PyData}, RpAll H vs ds → ds[i]? = some d → ∃ v, vs[i]? = some v ∧ Rp H v d
  | _, _, _, _, .nil, e => by simp at e
  | _, _, 0, _, .cons a _, e => by
    simp only [List.getElem?_cons_zero, Option.some.injEq] at e
    subst e
    exact ⟨_, rfl, a⟩
  | _, _, i + 1, _, .cons _ r, e => by
    simp only [List.getElem?_cons_succ] at e
    obtain ⟨v, h1, h2⟩ := RpAll.get (i := i) r e
    exact ⟨v, h1, h2⟩
theorem RpAll.getV {H : Hp} : ∀ {vs : List V} {ds : List PyData} {i : Nat} {v : V}, RpAll H vs ds → vs[i]? = some v → ∃ d, ds[i]? = some d ∧ Rp H v d
  | _, _, _, _, .nil, e => by simp at e
  | _, _, 0, _, .cons a _, e => by
    simp only [List.getElem?_cons_zero, Option.some.injEq] at e
    subst e
    exact ⟨_, rfl, a⟩
  | _, _, i + 1, _, .cons _ r, e => by
    simp only [List.getElem?_cons_succ] at e
    obtain ⟨d, h1, h2⟩ := RpAll.getV (i := i) r e
    exact ⟨d, h1, h2⟩
theorem rp_ints {H : Hp} : ∀ ns : List Int, RpAll H (ns.map V.int) (ns.map PyData.int)
  | [] => .nil
  | n :: ns => .cons (.int n) (rp_ints ns)
theorem pool_ints (ns : List Int) : poolV (ns.map V.int) = false := by
  cases ns <;> rfl
/-! ### pools -/
/-- at p: the pool of a law, whatever it holds; its copy of the script at c -/
def PoolAt (H : Hp) (p c : Addr) : Prop := ∃ (ns : List Int) (i m s b z : Int),
  H p = some (.lst [.ref c, .int i, .int m, .int s, .int b, .int z]) ∧ H c = some (.lst (ns.map V.int)) ∧ 0 ≤ i ∧ 0 ≤ s ∧ s < 2147483647
theorem PoolAt.same {H H' : Hp} {p c : Addr} (s : Same H H') (h : PoolAt H p c) : PoolAt H' p c := by
  obtain ⟨ns, i, m, t, b, z, h1, h2, r⟩ := h
  exact ⟨ns, i, m, t, b, z, s _ _ h1, s _ _ h2, r⟩
/-- another list is changed beside it -/
theorem PoolAt.mut {H : Hp} {p c l : Addr} {o : HO} (h : PoolAt H p c) (n : l ≠ p) (nc : l ≠ c) : PoolAt (upd H l o) p c := by
  obtain ⟨ns, i, m, t, b, z, h1, h2, r⟩ := h
  exact ⟨ns, i, m, t, b, z, by rw [upd_ne n.symm]; exact h1, by rw [upd_ne nc.symm]; exact h2, r⟩
theorem PoolAt.at {H : Hp} {p c : Addr} (h : PoolAt H p c) : ∃ xs, H p = some (.lst xs) ∧ poolV xs = true := by
  obtain ⟨ns, i, m, t, b, z, h1, _⟩ := h
  exact ⟨_, h1, rfl⟩
theorem PoolAt.ne {H : Hp} {p c l : Addr} (h : PoolAt H p c) (f : H l = none) : l ≠ p ∧ l ≠ c := by
  obtain ⟨ns, i, m, t, b, z, h1, h2, _⟩ := h
  exact ⟨(ne_of_none h1 f).symm, (ne_of_none h2 f).symm⟩

/-! ### built-ins -/
theorem bt_isinstance : bootBuiltins "isinstance" = some (.builtin "isinstance") := by decide +kernel
theorem bt_len : bootBuiltins "len" = some (.builtin "len") := by decide +kernel
theorem bt_sum : bootBuiltins "sum" = some (.builtin "sum") := by decide +kernel
theorem bt_max : bootBuiltins "max" = some (.builtin "max") := by decide +kernel
theorem bt_min : bootBuiltins "min" = some (.builtin "min") := by decide +kernel
theorem bt_abs : bootBuiltins "abs" = some (.builtin "abs") := by decide +kernel
theorem bt_any : bootBuiltins "any" = some (.builtin "any") := by decide +kernel
theorem bt_all : bootBuiltins "all" = some (.builtin "all") := by decide +kernel
theorem bt_sorted : bootBuiltins "sorted" = some (.builtin "sorted") := by decide +kernel
theorem bt_int : bootBuiltins "int" = some (.type "int") := by decide +kernel
theorem bt_bool : bootBuiltins "bool" = some (.type "bool") := by decide +kernel
theorem bt_str : bootBuiltins "str" = some (.type "str") := by decide +kernel
theorem bt_list : bootBuiltins "list" = some (.type "list") := by decide +kernel
theorem bt_tuple : bootBuiltins "tuple" = some (.type "tuple") := by decide +kernel
theorem bt_dict : bootBuiltins "dict" = some (.type "dict") := by decide +kernel
structure Blt (mg : Str → Option Value) : Prop where
  isinstance : mg "isinstance" = none
  len : mg "len" = none
  sum : mg "sum" = none
  max : mg "max" = none
  min : mg "min" = none
  abs : mg "abs" = none
  any : mg "any" = none
  all : mg "all" = none
  sorted : mg "sorted" = none
  int : mg "int" = none
  bool : mg "bool" = none
  str : mg "str" = none
  list : mg "list" = none
  tuple : mg "tuple" = none
  dict : mg "dict" = none
  range : mg "range" = none
  enumerate : mg "enumerate" = none
  zip : mg "zip" = none

theorem at_ints {ns : List Int} {v : Int} (h0 : 0 ≤ v) (h1 : v < ns.length) : ∃ n, n ∈ ns ∧ atI (ns.map V.int) v = some (.int n) := by
  have hlt : v.toNat < ns.length := by omega
  refine ⟨ns[v.toNat], List.getElem_mem hlt, at_of (j := v.toNat) (by omega) ?_⟩
  rw [List.getElem?_map, List.getElem?_eq_getElem hlt]
  rfl

/-! ### rules with the written part told (so that they serve in a comprehension's block, too) -/
def rLen (K : PySem.W.Frag) : List V → Hp → VK → Prop := fun xs H Q => ∃ p ys, xs = [V.ref p] ∧ (SqL K H p ys ∨ SqT K H p ys) ∧ Q (.int (ys.length : Nat)) H
def rListOf (K : PySem.W.Frag) : List V → Hp → VK → Prop := fun xs H Q => ∃ p ys, xs = [V.ref p] ∧ (SqL K H p ys ∨ SqT K H p ys) ∧ ∀ l, H l = none → Q (.ref l) (upd H l (.lst ys))
def rTupOf (K : PySem.W.Frag) : List V → Hp → VK → Prop := fun xs H Q => ∃ p ys, xs = [V.ref p] ∧ ((SqL K H p ys ∧ ∀ l, H l = none → Q (.ref l) (upd H l (.tup ys))) ∨ (SqT K H p ys ∧ Q (.ref p) H))
section
variable {X : Cx} {K : PySem.W.Frag} {e o b : Expr} {es : List Expr} {ta to : TE} {t : TA} {f : Str} {pos : Pos}
theorem kfld (hK : X.K = K) (he : PE X e ta) (hb : attributeBase e f X.env (eval e X.env) = eval e X.env := by rfl) : PE X (.Attribute e f pos) (tFld K ta f) := by
  subst hK
  exact pe_fld he hb
theorem kixl (hK : X.K = K) : IxR X (rIxL K) := by
  subst hK
  exact ix_list
theorem kixt (hK : X.K = K) : IxR X (rIxT K) := by
  subst hK
  exact ix_tup
theorem kixs (hK : X.K = K) : IxR X (rIx K) := by
  subst hK
  exact ix_seq
theorem ksll (hK : X.K = K) : SlR X (rSlL K) := by
  subst hK
  exact sl_list
theorem kslt (hK : X.K = K) : SlR X (rSlT K) := by
  subst hK
  exact sl_tup
theorem kin (hK : X.K = K) : OpR X (compareOp .In) (rIn K false) := by
  subst hK
  exact op_in_seq
theorem knin (hK : X.K = K) : OpR X (compareOp .NotIn) (rIn K true) := by
  subst hK
  exact op_notIn_seq
theorem keqd (hK : X.K = K) (hu : X.A.units + 64 < cLine) : OpR X (compareOp .Eq) (rEqD K) := by
  subst hK
  exact op_eqD hu
theorem kned (hK : X.K = K) (hu : X.A.units + 64 < cLine) : OpR X (compareOp .NotEq) (rNeD K) := by
  subst hK
  exact op_neD hu
theorem kcatt (hK : X.K = K) : OpR X (binaryOp .Add) (rCatT K) := by
  subst hK
  exact op_catT
theorem klen (hK : X.K = K) : CallR X (.builtin "len") (rLen K) := by
  subst hK
  exact call_len_seq
theorem klist (hK : X.K = K) : CallR X (.type "list") (rListOf K) := by
  subst hK
  exact call_list_of
theorem ktuple (hK : X.K = K) : CallR X (.type "tuple") (rTupOf K) := by
  subst hK
  exact call_tuple_of
theorem kisi (hK : X.K = K) : CallR X (.builtin "isinstance") (rIsi K) := by
  subst hK
  exact call_isi
theorem kisiT (hK : X.K = K) : CallR X (.builtin "isinstance") (rIsiT K) := by
  subst hK
  exact call_isiT
theorem kany (hK : X.K = K) (hc : X.calm = true) : CallR X (.builtin "any") (rAny K) := by
  subst hK
  exact cr_any hc
theorem kall (hK : X.K = K) (hc : X.calm = true) : CallR X (.builtin "all") (rAll K) := by
  subst hK
  exact cr_all hc
theorem ksum (hK : X.K = K) (hc : X.calm = true) : CallR X (.builtin "sum") (rSum K) := by
  subst hK
  exact cr_sum hc
theorem kmax (hK : X.K = K) (hc : X.calm = true) : CallR X (.builtin "max") (rMax K) := by
  subst hK
  exact cr_max hc
theorem kindex (hK : X.K = K) : MtR X "list.index" (rIndex K) := by
  subst hK
  exact mt_index
theorem kpil (hK : X.K = K) {tg l : Expr} {tl : TE} (h : PE X l tl) : PI X tg l (iList K tl) := by
  subst hK
  exact pi_list h
theorem kpit (hK : X.K = K) {tg l : Expr} {tl : TE} (h : PE X l tl) : PI X tg l (iTup K tl) := by
  subst hK
  exact pi_tup h
theorem kgtup (hK : X.K = K) {es : List Expr} {k n : Nat} {t : TGs} (hc : X.calm = true) (h : PGs X es t) (hn : (assignEach es X.env).length = n := by rfl) (hst : (assignEach es X.env).findIdx? (·.1) = none := by rfl) : PG X (.Tuple es k pos) (gTup K n t) := by
  subst hK
  exact pg_tup hc h hn hst
end

/-! ### a walk over a list or a tuple, the kind told -/
def ItS (k : Bool) (K : PySem.W.Frag) (a : Addr) : It := match k with
  | true => Itt K a
  | false => Itl K a
def iK (k : Bool) (K : PySem.W.Frag) (tl : TE) : TI := fun σ H R => tl σ H fun x H1 => ∃ a, x = .ref a ∧ (∃ xs, SqK k K H1 a xs) ∧ R (ItS k K a) H1
theorem pi_K (k : Bool) {X : Cx} {K : PySem.W.Frag} (hK : X.K = K) {tg l : Expr} {tl : TE} (h : PE X l tl) : PI X tg l (iK k K tl) := by
  subst hK
  cases k with
  | true => exact pi_tup h
  | false => exact pi_list h
theorem for_K {k : Bool} {K : PySem.W.Frag} {a : Addr} {xs : List V} {g : TG} {tb : TS} {D : Ends} {σ : L2.St} {H : Hp} (Pv : Nat → L2.St → Hp → Prop) (h0 : Pv 0 σ H) (hl : ∀ i σ H, i ≤ xs.length → Pv i σ H → SqK k K H a xs)
    (hs : ∀ i x σ H, xs[i]? = some x → Pv i σ H → g x σ H fun σ2 H2 => tb { D with nx := Pv (i + 1), ct := Pv (i + 1), bk := D.nx } σ2 H2) (hd : ∀ σ H, Pv xs.length σ H → D.nx σ H) :
    ∃ W : Nat → Nat → L2.St → Hp → Prop, (∃ m, W 0 m σ H) ∧ ∀ i m σ H, W i m σ H →
      ((ItS k K a).stop i H ∧ D.nx σ H) ∨ ((ItS k K a).go i H ∧ ∃ N : L2.St → Hp → Prop, (∀ σ' H', N σ' H' → ∃ m', m' < m ∧ W (i + 1) m' σ' H') ∧ ∀ x H', (ItS k K a).yld i H x H' → g x σ H' fun σ2 H2 => tb { D with nx := N, ct := N, bk := D.nx } σ2 H2) := by
  cases k with
  | true => exact for_tup Pv h0 hl hs hd
  | false => exact for_list Pv h0 hl hs hd
theorem lc_K {k : Bool} {K : PySem.W.Frag} {a : Addr} {xs : List V} {g : TG} {tt : TT} {te : TE} {vs : List Nat} {σ : L2.St} {H1 : Hp} {D : Addr} {Qd : Hp → Prop} (Pv : Nat → Hp → Prop) (h0 : Pv 0 (upd H1 D (.lst []))) (hl : ∀ i H, i ≤ xs.length → Pv i H → SqK k K H a xs)
    (hs : ∀ i x H, xs[i]? = some x → Pv i H → g x (wipe σ vs) H fun σ2 H2 => wipe σ2 vs = wipe σ vs ∧ tt σ2 H2 fun b H3 =>
      if b = true then te σ2 H3 fun y H4 => ∃ acc, H4 D = some (.lst acc) ∧ acc.length < sizeLine ∧ Pv (i + 1) (upd H4 D (.lst (acc ++ [y]))) else Pv (i + 1) H3) (hd : ∀ H, Pv xs.length H → Qd H) :
    ∃ W : Nat → Nat → Hp → Prop, (∃ m, W 0 m (upd H1 D (.lst []))) ∧ ∀ i m H, W i m H →
      ((ItS k K a).stop i H ∧ Qd H) ∨ ((ItS k K a).go i H ∧ ∃ Nx : Hp → Prop, (∀ H', Nx H' → ∃ m', m' < m ∧ W (i + 1) m' H') ∧ ∀ x H', (ItS k K a).yld i H x H' → g x (wipe σ vs) H' fun σ2 H2 => wipe σ2 vs = wipe σ vs ∧ tt σ2 H2 fun b H3 =>
        if b = true then te σ2 H3 fun y H4 => ∃ acc, H4 D = some (.lst acc) ∧ acc.length < sizeLine ∧ Nx (upd H4 D (.lst (acc ++ [y]))) else Nx H3) := by
  cases k with
  | true => exact lc_tup Pv h0 hl hs hd
  | false => exact lc_list Pv h0 hl hs hd
theorem SqK.same {k : Bool} {K : PySem.W.Frag} {H H' : Hp} {a : Addr} {xs : List V} (s : Same H H') (h : SqK k K H a xs) : SqK k K H' a xs := by
  cases k with
  | true =>
    rcases h with (h | ⟨o, h⟩) | h
    · exact .inl (.inl (s _ _ h))
    · exact .inl (.inr ⟨o, s _ _ h⟩)
    · exact .inr h
  | false => exact Same.seq s h

theorem for_enum {K : PySem.W.Frag} {a : Addr} {xs : List V} {g : TG} {tb : TS} {D : Ends} {σ : L2.St} {H : Hp} (Pv : Nat → L2.St → Hp → Prop) (h0 : Pv 0 σ H) (hq : ∀ i σ H, Pv i σ H → SqL K H a xs)
    (hs : ∀ (i : Nat) (x : V) (T : Addr) (σ : L2.St) (H : Hp), xs[i]? = some x → Pv i σ H → H T = none → g (.ref T) σ (upd H T (.tup [.int (i : Nat), x])) fun σ2 H2 => tb { D with nx := Pv (i + 1), ct := Pv (i + 1), bk := D.nx } σ2 H2) (hd : ∀ σ H, Pv xs.length σ H → D.nx σ H) :
    ∃ W : Nat → Nat → L2.St → Hp → Prop, (∃ m, W 0 m σ H) ∧ ∀ i m σ H, W i m σ H →
      ((Ite K a).stop i H ∧ D.nx σ H) ∨ ((Ite K a).go i H ∧ ∃ N : L2.St → Hp → Prop, (∀ σ' H', N σ' H' → ∃ m', m' < m ∧ W (i + 1) m' σ' H') ∧ ∀ v H', (Ite K a).yld i H v H' → g v σ H' fun σ2 H2 => tb { D with nx := N, ct := N, bk := D.nx } σ2 H2) := by
  refine ⟨fun i m σ H => m + i = xs.length ∧ Pv i σ H, ⟨xs.length, rfl, h0⟩, ?_⟩
  rintro i m σ H ⟨hm, p⟩
  have qx := hq i σ H p
  by_cases hlt : i < xs.length
  · refine .inr ⟨⟨xs, xs[i], qx, List.getElem?_eq_getElem hlt⟩, Pv (i + 1), fun σ' H' p' => ⟨m - 1, by omega, by omega, p'⟩, fun v H' yl => ?_⟩
    obtain ⟨T, x, rfl, hT, rfl, f1⟩ := yl
    exact hs i x T σ H (f1 xs qx) p hT
  · have e : i = xs.length := by omega
    subst e
    exact .inl ⟨⟨xs, qx, Nat.le_refl _⟩, hd σ H p⟩
theorem pe_gint {X : Cx} {x : Str} {i : Int} {pos : Pos} (h : ∃ t, X.mg x = some (.int i t)) (hg : Gl X x := by rfl) (hd : (x == ("__debug__" : Str)) = false := by decide) : PE X (.Name x pos) (tC (.int i)) := by
  obtain ⟨t, h⟩ := h
  exact pe_glob hg h ⟨_, rfl⟩ (hd := hd)
theorem cut_take (xs : List V) (i : Nat) : cutV xs none (some (i : Int)) = xs.take i := by
  unfold cutV
  rw [HT.sIx_nat, HT.sIx_none, List.drop_zero, Nat.sub_zero, ← List.take_eq_take_min]
theorem cut_drop (xs : List V) (i : Nat) : cutV xs (some (i : Int)) none = xs.drop i := by
  unfold cutV
  rw [HT.sIx_nat, HT.sIx_none]
  by_cases h : i ≤ xs.length
  · rw [Nat.min_eq_left h]
    exact List.take_of_length_le (by rw [List.length_drop]; omega)
  · rw [Nat.min_eq_right (by omega), List.drop_eq_nil_of_le (Nat.le_refl _), List.drop_eq_nil_of_le (by omega), List.take_nil]
theorem inV_ints (n : Int) (ns : List Int) : inV (.int n) (ns.map V.int) = decide (n ∈ ns) := by
  unfold inV
  rw [List.any_map]
  rw [Bool.eq_iff_iff, decide_eq_true_eq, List.any_eq_true]
  refine ⟨fun ⟨y, hy, e⟩ => ?_, fun h => ⟨n, h, ?_⟩⟩
  · have e' : (y == n) = true := e
    rw [← eq_of_beq e']
    exact hy
  · show (n == n) = true
    exact beq_self_eq_true n
theorem flat_ints (ns : List Int) : (ns.map V.int).all flatV = true := by
  rw [List.all_map]
  exact List.all_eq_true.mpr fun _ _ => rfl
theorem sq_upd {K : PySem.W.Frag} {H : Hp} {b x C dx : Addr} {xs : List V} {fs : List (Str × V)} {o : HO} (h : SqL K H b xs) (hx : H x = some (.ins C dx fs)) : SqL K (upd H x o) b xs := by
  rcases h with (h | ⟨u, h⟩) | h
  · exact .inl (.inl (by rw [upd_ne (ne_of h hx (by intro z; cases z))]; exact h))
  · exact .inl (.inr ⟨u, by rw [upd_ne (ne_of h hx (by intro z; cases z))]; exact h⟩)
  · exact .inr h
theorem map_get {α : Type} {f : α → V} {l : List α} {i : Nat} {x : V} (h : (l.map f)[i]? = some x) : ∃ a, l[i]? = some a ∧ x = f a := by
  rw [List.getElem?_map] at h
  cases e : l[i]? with
  | none =>
    rw [e] at h
    cases h
  | some a =>
    rw [e] at h
    exact ⟨a, rfl, (Option.some.inj h).symm⟩
theorem take_map_snoc {α : Type} {f : α → V} {l : List α} {i : Nat} {a : α} (h : l[i]? = some a) : (l.take (i + 1)).map f = (l.take i).map f ++ [f a] := by
  rw [List.take_add_one, h, List.map_append]
  rfl

/-! ### dict(zip(..)) over lists and tuples in any mix -/
section
variable {prog : Program} {w : World}
theorem pzK (k1 k2 : Bool) (z TI TO i1 i2 l1 l2 : Addr) (D : ZipApart z TI TO i1 i2 l1 l2) (us vs : Array Value) :
    PairArg prog w "zip" z [z, TI, TO, i1, i2, l1, l2] [z, TO, i1, i2] (min us.size vs.size) (fun i k v => us[i]? = some k ∧ vs[i]? = some v)
      (fun h => IsZip h z TI TO .none ∧ IsPair h TI (.ref i1) (.ref i2) ∧ (∃ a b, IsPair h TO a b) ∧ ItK k1 h i1 l1 0 ∧ ItK k2 h i2 l2 0 ∧ SeK k1 h l1 us ∧ SeK k2 h l2 vs) where
  type := fun s ok => ⟨_, ok.1, rfl⟩
  notDict := by decide
  keep := fun h h' ok hk => by
    obtain ⟨hz, hTI, ⟨a, b, hTO⟩, h1, h2, hl1, hl2⟩ := ok
    exact ⟨hk _ _ hz, hk _ _ hTI, ⟨a, b, hk _ _ hTO⟩, h1.at fun o e => hk _ o e, h2.at fun o e => hk _ o e, hl1.at fun o e => hk _ o e, hl2.at fun o e => hk _ o e⟩
  there := fun h ok b hb => by
    obtain ⟨hz, hTI, ⟨a, c, hTO⟩, h1, h2, hl1, hl2⟩ := ok
    obtain ⟨o1, h1, _⟩ := h1.obj
    obtain ⟨o2, h2, _⟩ := h2.obj
    have g1 : ∃ o, h.get? l1 = some o := by
      cases k1 with
      | true => obtain ⟨o, e, _⟩ := hl1; exact ⟨o, e⟩
      | false => obtain ⟨o, e, _⟩ := hl1; exact ⟨o, e⟩
    have g2 : ∃ o, h.get? l2 = some o := by
      cases k2 with
      | true => obtain ⟨o, e, _⟩ := hl2; exact ⟨o, e⟩
      | false => obtain ⟨o, e, _⟩ := hl2; exact ⟨o, e⟩
    simp only [List.mem_cons, List.not_mem_nil, or_false] at hb
    rcases hb with rfl | rfl | rfl | rfl | rfl | rfl | rfl
    all_goals first | exact ⟨_, hz⟩ | exact ⟨_, hTI⟩ | exact ⟨_, hTO⟩ | exact ⟨_, h1⟩ | exact ⟨_, h2⟩ | exact g1 | exact g2
  sub := fun b hb => by simp at hb ⊢; rcases hb with rfl | rfl | rfl | rfl <;> simp
  noKeys := fun A s Q E hA ok h => getAttrOr_miss_zip ok.1 rfl rfl rfl zip_no_keys (by decide +kernel) hA h
  iter := fun A s d Q E hA ok hd hdf h => by
    obtain ⟨hz, hTI, ⟨a, b, hTO⟩, h1, h2, hl1, hl2⟩ := ok
    simp only [List.mem_cons, List.not_mem_nil, or_false, not_or] at hdf
    obtain ⟨dz, dTI, dTO, di1, di2, dl1, dl2⟩ := hdf
    have nS : d ≠ z ∧ d ≠ TI ∧ d ≠ TO ∧ d ∉ [i1, l1] ∧ d ∉ [i2, l2] := ⟨dz, dTI, dTO, by simp [di1, dl1], by simp [di2, dl2]⟩
    have hA1 : A.in1.handled = none := hA
    have d1 := drK (prog := prog) (w := w) (A := A.in1) k1 hA1 D.l1i1 us
    have d2 := drK (prog := prog) (w := w) (A := A.in1) k2 hA1 D.l2i2 vs
    refine wpAny_pyIter_zip hz (h z [z, TO, i1, i2] (fun i h => ZSt z TI TO i1 i2 d (StK k1 i1 l1 us) (StK k2 i2 l2 vs) h i) s.heap s.toks ?_
      ⟨hTI, ⟨h1, hl1⟩, ⟨h2, hl2⟩, .inl ⟨hz, a, b, hTO⟩⟩ (fun _ _ e => e) fun b hb => .inl hb)
    exact {
      off := fun hm => by
        simp only [List.mem_cons, List.not_mem_nil, or_false] at hm
        rcases hm with e | e | e | e
        · exact dz e
        · exact dTO e
        · exact di1 e
        · exact di2 e
      frame := fun i h₁ h₂ st hk => ZSt.over d1 d2 st nS hk
      item := fun i s₁ Q₁ E₁ hi st hds hQ => by
        refine zs_item (sepK D) d1 d2 st (by omega) (by omega) hds fun x y h' tk px py st' hp hsz hk => ?_
        refine hQ _ x y h' tk ⟨px, py⟩ (.inl ⟨_, hp, rfl, _, rfl⟩) st' fun b o hb e => ?_
        simp only [List.mem_cons, List.not_mem_nil, or_false, not_or] at hb
        exact hk b o hb.1 hb.2.1 hb.2.2.1 hb.2.2.2 e
      done := fun s₁ Q₁ E₁ st hQ => by
        refine zs_end (sepK D) d1 d2 st (by omega) (by omega) (by omega) fun h' tk hk => hQ h' tk fun b o hb e => ?_
        simp only [List.mem_cons, List.not_mem_nil, or_false, not_or] at hb
        exact hk b o hb.1 hb.2.1 hb.2.2.1 hb.2.2.2 e }
end
/-- dict(zip(e, e2)): the keys are texts or ints -/
def tDictZip (k1 k2 : Bool) (K : PySem.W.Frag) (ta : TA) : TE := fun σ H Q => ta σ H fun vs H1 => ∃ (a b : Addr) (ks : List Key) (ys : List V), vs = [.ref a, .ref b] ∧ SqK k1 K H1 a (ks.map kV) ∧ SqK k2 K H1 b ys ∧
  ∀ p, H1 p = none → Q (.ref p) (upd H1 p (.dK (mergeK [] (ks.zip ys))))
theorem zip_kv : ∀ {ks : List Key} {ys : List V} {vs : List Value}, Vals ys vs → KV (ks.zip ys) (ks.zip vs)
  | [], _, _, _ => .nil
  | _ :: _, _, _, .nil => .nil
  | _ :: _, _, _, .cons r t => .cons ⟨rfl, r⟩ (zip_kv t)
section
variable {X : Cx} {p pz pos cpos : Pos} {e e2 : Expr} {ta : TA}
theorem pe_dictZip (k1 k2 : Bool) {K : PySem.W.Frag} (hK : X.K = K) (hc : X.calm = true) (hg : Gl X "dict") (hm : X.mg "dict" = none) (hgz : Gl X "zip") (hmz : X.mg "zip" = none) (ha : PA X [e, e2] ta)
    (hs : starEach [e, e2] X.env = (false, eval e X.env) :: starEach [e2] X.env := by rfl) (hpl : (backTo cpos (starEach [e2] X.env)).any (·.1) = false := by rfl)
    (hs2 : starEach [.Call (.Name "zip" pz) [e, e2] [] cpos] X.env = (false, eval (.Call (.Name "zip" pz) [e, e2] [] cpos) X.env) :: starEach [] X.env := by rfl) :
    PE X (.Call (.Name "dict" p) [.Call (.Name "zip" pz) [e, e2] [] cpos] [] pos) (tDictZip k1 k2 K ta) := by
  subst hK
  refine ⟨fun pins s σ H Q I h => ?_⟩
  refine wpAny_Call_Name_kw (ld_blt I hg hm (show bootBuiltins "dict" = some (.type "dict") by decide +kernel) (PyProof.Rows.callWith_type1 ?_ hs2 rfl))
  rw [hs2]; show wpAny _ _ (spliced ((false, eval (.Call (.Name "zip" pz) [e, e2] [] cpos) X.env) :: backTo pos (starEach [] X.env))) _ _ s
  refine Calls.spliced_cons ?_
  refine Call_ (ld_blt I hgz hmz PyProof.Rows.boot_zip (PyProof.Rows.callWith_type1 (thn (ha.run cpos pins s σ H _ I h) fun us s1 hh => ?_) hs hpl))
  obtain ⟨vs, H1, I1, r1, a, b, ks, ys, rfl, qx, qy, q⟩ := hh
  obtain ⟨u1, u2, rfl, ru, rv⟩ := vals2 r1
  cases (show u1 = Value.ref a from ru)
  cases (show u2 = Value.ref b from rv)
  obtain ⟨us, rus, pu, lu⟩ := seqK I1 qx
  obtain ⟨ws, rws, pw, lw⟩ := seqK I1 qy
  have lus := rus.length
  have lws := rws.length
  rw [List.length_map] at lus lu
  refine zip_begins2 (bgK k1 a us.toArray) (bgK k2 b ws.toArray) pu pw fun h' hz hTI hTO o1 o2 hsz hk => ?_
  refine Calls.spliced_nil ?_
  have D := PySem.W.ktu_apart s1.heap.objs.size a b pu.lt pw.lt
  have ez : (ks.zip ws).length = min us.toArray.size ws.toArray.size := by
    rw [List.length_zip, List.size_toArray, List.size_toArray, lus]
  refine call_dict_pairs (s := { s1 with heap := h' }) (knd := mixKind X.prog X.w) (kvs := ks.zip ws) (pzK (prog := X.prog) (w := X.w) k1 k2 _ _ _ _ _ a b D us.toArray ws.toArray) (I1.ok.hd hc) ⟨hz, hTI, ⟨_, _, hTO⟩, itK0 o1, itK0 o2, pu.at fun o => hk a o, pw.at fun o => hk b o⟩
    ⟨ez, fun i key v hkv => ?_⟩ (by rw [← ez, List.length_zip]; omega) fun h2 tk hd' hk2 => ?_
  · obtain ⟨e1, e2⟩ := hkv
    have e1' : us[i]? = some key := by simpa using e1
    have e2' : ws[i]? = some v := by simpa using e2
    have hi : i < ks.length := by
      have := (List.getElem?_eq_some_iff.mp e1').1
      omega
    obtain ⟨u, g1, g2⟩ := rus.get (i := i) (x := kV ks[i]) (by rw [List.getElem?_map, List.getElem?_eq_getElem hi]; rfl)
    rw [e1'] at g1
    cases g1
    exact ⟨ks[i], by rw [List.getElem?_zip_eq_some]; exact ⟨List.getElem?_eq_getElem hi, e2'⟩, kV_is g2⟩
  · have kp0 : ∀ c o, s1.heap.get? c = some o → h2.get? c = some o := fun c o ho => by
      have lc : c < s1.heap.objs.size := Heap.lt_size ho
      refine hk2 c o (fun hb => ?_) (hk c o ho)
      simp only [List.mem_cons, List.not_mem_nil, or_false] at hb
      rcases hb with e | e | e | e
      · exact absurd (e ▸ lc) (Nat.not_lt.mpr (Nat.le_add_right _ _))
      · exact absurd (e ▸ lc) (Nat.not_lt.mpr (Nat.le_add_right _ _))
      · exact absurd (e ▸ lc) (Nat.lt_irrefl _)
      · exact absurd (e ▸ lc) (Nat.not_lt.mpr (Nat.le_add_right _ _))
    have lN : s1.heap.objs.size ≤ h'.objs.size := by
      rw [hsz]
      exact Nat.le_add_right _ _
    have hmS : (h'.objs.size == sysModules) = false := beq_eq_false_iff_ne.mpr (Nat.ne_of_gt (Nat.lt_of_lt_of_le I1.big lN))
    have rel : KV (ks.zip ys) (ks.zip ws) := zip_kv rws
    have hlen : (mergeK [] (ks.zip ys)).length ≤ sizeLine := by
      refine Nat.le_trans (length_mergeK (ks.zip ys) []) ?_
      rw [List.length_nil, Nat.zero_add, List.length_zip]
      omega
    exact ⟨.ref h'.objs.size, upd H1 h'.objs.size (.dK (mergeK [] (ks.zip ys))), I1.laid (t' := tk) kp0 lN (show ObjOk X.prog X.w _ _ _ (.dK (mergeK [] (ks.zip ys))) from ⟨hlen, hmS, merged [] (ks.zip ws), KV.merge rel .nil, hd'⟩), rfl, q _ (I1.hok.fresh lN)⟩
end

/-! ### x == y by an own __eq__ of both answers -/
/-- two instances of the class at C, by the promise of its own __eq__ -/
def rEqO (C : Addr) (sp : Sp) (E : XK) : R2 := fun x y H Q => ∃ a b dx dy fs gs, x = .ref a ∧ y = .ref b ∧ H a = some (.ins C dx fs) ∧ H b = some (.ins C dy gs) ∧ sp [.ref a, .ref b] H (fun v H' => (∃ c : Bool, v = .bl c) ∧ Q v H') E
theorem op_eqO {X : Cx} {n : Nat} {CX : CXT} {C f : Addr} {fd : FuncData} {ps : List Str} {sp : Sp} {E : XK} (F : FnOk X.prog X.w X.K X.mg X.base CX n f fd ps sp)
    (hs : PySem.W.findIn X.K (.ref C) "__eq__" = some (some (.ref f))) (hf : PySem.W.isFn X.K (.ref f) = true) (hb : Binds X.K fd ps []) (hx : Passes CX X E) (hr : Room n X.A) : OpR X (compareOp .Eq) (rEqO C sp E) := by
  intro pins s σ H x y v u Q I rx ry hq
  obtain ⟨a, b, dx, dy, fs, gs, rfl, rfl, ha, hb', hsp⟩ := hq
  show wpAny (model X.prog X.w) X.A (richCompare .Eq v u) (EP X pins σ Q) X.xe s
  cases rx
  cases ry
  obtain ⟨mA, J, _⟩ := ins_get I.hok ha
  obtain ⟨mB, J', _⟩ := ins_get I.hok hb'
  obtain ⟨od, J, _⟩ := J.look
  obtain ⟨od', J', _⟩ := J'.look
  obtain ⟨m, hF⟩ := I.fr
  refine PySem.W.cmp_K (op := .Eq) (tb := .ref C) hr.units0 hF I.ok.mod.kin J J'.type (by simp [PySem.W.notFirst]) hs hf ?_
  have hl := F.len _ _ _ _ hsp
  have r2 : Vals [V.ref a, V.ref b] [Value.ref a, Value.ref b] := .cons rfl (.cons rfl .nil)
  refine wpAny_call (codeAny_mono (F.run X.A X.stack s H ⟨[.ref a, .ref b], []⟩ [.ref a, .ref b] [.ref a, .ref b] _ E hr I.env0 (by
    have := hb s [.ref a, .ref b] I.kIn (by simpa using hl)
    simpa using this) r2 hsp) fun r s' hq => ?_)
  cases r with
  | error e => exact hx pins σ H s e s' I hq
  | ok fl =>
    cases fl with
    | ret w =>
      obtain ⟨z, H', I', rz, ⟨c, ez⟩, ex⟩ := I.after hq
      subst ez
      cases rz
      exact ⟨.bl c, H', I', rfl, ex⟩
    | next => exact False.elim hq
    | brk => exact False.elim hq
    | cont => exact False.elim hq

/-! ### t[::-1] of a tuple -/
section
variable {prog : Program} {w : World} {A : Around} {E : Value → Shared → Prop} {s : Shared}
theorem adjust_rev (n : Nat) : Builtin.Slice.sliceAdjust none none (-1) (n : Int) = ((n : Int) - 1, -1) := by
  unfold Builtin.Slice.sliceAdjust
  simp
theorem places_rev (n : Nat) : Builtin.Slice.slicePlaces ((n : Int) - 1) (-1) (-1) = n := by
  unfold Builtin.Slice.slicePlaces
  cases n with
  | zero => rfl
  | succ n =>
    have h1 : ¬ ((-1 : Int) > 0) := by omega
    simp only [h1, if_false]
    split <;> simp <;> omega
theorem fm_congr {α β : Type} {f g : α → Option β} : ∀ {l : List α}, (∀ x ∈ l, f x = g x) → l.filterMap f = l.filterMap g
  | [], _ => rfl
  | a :: l, h => by
    rw [List.filterMap_cons, List.filterMap_cons, h a List.mem_cons_self, fm_congr fun x hx => h x (List.mem_cons_of_mem _ hx)]
theorem pick_rev (xs : Array Value) : ((List.range xs.size).filterMap fun (m : Nat) => xs[(((xs.size : Int) - 1) + (m : Int) * (-1)).toNat]?).toArray = xs.toList.reverse.toArray := by
  have e : ∀ m ∈ List.range xs.size, xs[(((xs.size : Int) - 1) + (m : Int) * (-1)).toNat]? = xs.toList.reverse[m]? := fun m hm => by
    have hm := List.mem_range.mp hm
    rw [List.getElem?_reverse (by simpa using hm)]
    rw [show (((xs.size : Int) - 1) + (m : Int) * (-1)).toNat = xs.toList.length - 1 - m by rw [Array.length_toList]; omega]
    simp
  rw [fm_congr e]
  congr 1
  have : xs.size = xs.toList.reverse.length := by simp
  rw [this]
  generalize xs.toList.reverse = l
  refine List.ext_getElem? fun i => ?_
  have h2 : (List.range l.length).filterMap (fun m => l[m]?) = l := by
    have h3 : ∀ (l : List Value), (List.range l.length).filterMap (fun m => l[m]?) = l := by
      intro l
      induction l with
      | nil => rfl
      | cons a l ih =>
        rw [List.length_cons, List.range_succ_eq_map, List.filterMap_cons]
        show a :: List.filterMap _ _ = _
        rw [List.filterMap_map]
        show a :: List.filterMap (fun m => (a :: l)[m + 1]?) _ = _
        simp only [List.getElem?_cons_succ]
        rw [ih]
    exact h3 l
  rw [h2]
theorem sliceApplied_rev {sl : Addr} {vl vu vs : Value} {n : Nat} {Q : Int × Int × Nat → Shared → Prop} (hs : s.heap.IsSliceOf sl vl vu vs) (pl : IsPart vl none) (pu : IsPart vu none) (ps : IsPart vs (some (-1)))
    (h : Q ((n : Int) - 1, -1, n) s) : wpAny (model prog w) A (Builtin.Slice.sliceApplied (.ref sl) (pure (n : Int))) Q E s := by
  obtain ⟨os, hos, hcs, hds⟩ := id hs
  unfold Builtin.Slice.sliceApplied Builtin.Slice.sliceFields
  refine wpAny_bind (wpAny_bind (wpAny_field hos hds (x := vl) rfl (wpAny_bind (wpAny_field hos hds (x := vu) rfl (wpAny_bind (wpAny_field hos hds (x := vs) rfl (wpAny_pure ?_)))))))
  refine wpAny_bind (HT.slicePart_ ps ?_)
  show wpAny _ _ (if ((-1 : Int) == 0) = true then _ else _) _ _ s
  rw [if_neg (by decide)]
  refine wpAny_bind (HT.slicePart_ pl (wpAny_bind (HT.slicePart_ pu (wpAny_bind (wpAny_pure ?_)))))
  show wpAny _ _ (match Builtin.Slice.sliceAdjust none none (-1) (n : Int) with | (lo, hi) => pure (lo, (-1 : Int), Builtin.Slice.slicePlaces lo hi (-1))) _ _ s
  rw [adjust_rev]
  show wpAny _ _ (pure ((n : Int) - 1, (-1 : Int), Builtin.Slice.slicePlaces ((n : Int) - 1) (-1) (-1))) _ _ s
  rw [places_rev]
  exact wpAny_pure h
theorem getItem_tuple_rev {t sl : Addr} {items : Array Value} {vl vu vs : Value} {Q : Value → Shared → Prop} (ht : IsTup s.heap t items) (hs : s.heap.IsSliceOf sl vl vu vs) (pl : IsPart vl none) (pu : IsPart vu none) (ps : IsPart vs (some (-1)))
    (h : Q (.ref s.heap.objs.size) { s with heap := s.heap.push { cls := .type "tuple", data := .seq items.toList.reverse.toArray } })
    (hsz : items.size ≤ sizeLine) : wpAny (model prog w) A (getItem (.ref t) (.ref sl)) Q E s := by
  have htake : sizeOk (.seq items.toList.reverse.toArray) := by
    show items.toList.reverse.toArray.size ≤ sizeLine
    rw [List.size_toArray, List.length_reverse, Array.length_toList]
    exact hsz
  obtain ⟨os, hos, hcs, hds⟩ := id hs
  have hTs : s.TypeIs (.ref sl) "slice" := ⟨os, hos, hcs⟩
  unfold getItem
  try with_reducible refine wpAny_holding ?_
  first | refine wpAny_bind (wpAny_pure ?_) | skip
  refine wpAny_bind (wpAny_sequenceKey ht.typeIs (by decide) ?_)
  refine wpAny_bind (wpAny_callSpecial?_slot (name := Str.ofString "__getitem__") ht.typeIs PyProof.Rows.slot_tuple_getitem
    (wpAny_call_entry PyProof.Rows.slot_tuple_getitem ht.typeIs entry_tuple_getitem ?_ (args_tuple_getitem _ _)))
  show wpAny _ _ (Builtin.Tuple.tupleItemsOf (.ref t) >>= _) _ _ s
  refine wpAny_bind (tupleItemsOf_ ht ?_)
  refine wpAny_bind (wpAny_typeOf hTs ?_)
  rw [if_pos (by decide)]
  refine wpAny_bind (sliceApplied_rev hs pl pu ps ?_)
  have hno : ¬ (((((items.size : Int) - 1) == 0 && (-1 : Int) == 1) && items.size == items.size) = true) := by simp
  show wpAny _ _ (if (((items.size : Int) - 1) == 0 && (-1 : Int) == 1 && items.size == items.size) = true then _ else _) _ _ s
  rw [if_neg hno, pick_rev]
  first
    | exact wpAny_bind (wpAny_newObj_type (wpAny_pure ⟨_, rfl, wpAny_pure h⟩) htake)
    | exact wpAny_bind (wpAny_pure (wpAny_bind (wpAny_newObj_type (wpAny_pure ⟨_, rfl, wpAny_pure h⟩) htake)))
end
def tRevT (K : PySem.W.Frag) (te : TE) : TE := fun σ H Q => te σ H fun x H1 => ∃ a xs, x = .ref a ∧ SqT K H1 a xs ∧ ∀ p, H1 p = none → Q (.ref p) (upd H1 p (.tup xs.reverse))
theorem pe_revT {X : Cx} {K : PySem.W.Frag} (hK : X.K = K) {e : Expr} {te : TE} {k : Nat} {p1 p2 p3 pos : Pos} (he : PE X e te) : PE X (.Subscript e (.Slice none none (some (.UnaryOp .USub (.Constant (.int 1) k p1) p2)) p3) pos) (tRevT K te) := by
  subst hK
  refine ⟨fun pins s σ H Q I h => ?_⟩
  refine Subscript_ (thn (he.run pins s σ H _ I h) fun v s1 ⟨x, H1, I1, r1, q1⟩ => ?_)
  obtain ⟨a, xs, ex, hx, q⟩ := q1
  subst ex
  cases r1
  have hst : PO X (some (.UnaryOp .USub (.Constant (.int 1) k p1) p2)) (tPart (tUn (rU fun i => .int (-i)) (tC (.int 1)))) := po_some (pe_un un_neg pe_int)
  refine wpAny_Slice (thn (po_none.run pins s1 σ H1 (fun o H2 => o = none ∧ H2 = H1) I1 ⟨rfl, rfl⟩) fun vl s2 ⟨l, H2, I2, pl, el, e2⟩ => ?_)
  subst el e2
  refine thn (po_none.run pins s2 σ H2 (fun o H3 => o = none ∧ H3 = H2) I2 ⟨rfl, rfl⟩) fun vu s3 ⟨u, H3, I3, pu, eu, e3⟩ => ?_
  subst eu e3
  refine thn (hst.run pins s3 σ H3 (fun o H4 => o = some (-1) ∧ H4 = H3) I3 ⟨1, rfl, -1, rfl, rfl, rfl⟩) fun vs s4 ⟨o, H4, I4, ps, eo, e4⟩ => ?_
  subst eo e4
  have I5 : Inv X pins σ H4 { s4 with heap := s4.heap.push { cls := .type "slice", data := .fields #[vl, vu, vs] } } := I4.kept (t' := s4.toks) fun b ob q => Heap.get?_push_of_some _ q
  obtain ⟨its, r, ht, hz⟩ := I5.tuple hx
  have hlen := r.length
  show wpAny (model X.prog X.w) X.A (subscriptTail e (.Slice none none (some (.UnaryOp .USub (.Constant (.int 1) k p1) p2)) p3) (.ref a) (.ref s4.heap.objs.size)) (EP X pins σ Q) X.xe { s4 with heap := s4.heap.push { cls := .type "slice", data := .fields #[vl, vu, vs] } }
  refine tail_any (ops := [.ref a, .ref s4.heap.objs.size]) ht.typeIs (PyProof.Rows.slot_tuple_getitem.lookup) ?_ (by with_unfolding_all rfl)
  refine getItem_tuple_rev ht (Heap.IsSliceOf.new _ vl vu vs) pl pu ps ?_ (by rw [List.size_toArray]; omega)
  refine ⟨.ref _, _, I5.laid (t' := s4.toks) (o := .tup xs.reverse) (fun b ob q => Heap.get?_push_of_some _ q) (Nat.le_refl _) ?_, rfl, q _ (I5.hok.fresh (Nat.le_refl _))⟩
  exact ⟨by rw [List.length_reverse]; exact hz, _, r.reverse, IsTup.new _ _⟩
theorem krevL {X : Cx} {K : PySem.W.Frag} (hK : X.K = K) {e : Expr} {te : TE} {k : Nat} {p1 p2 p3 pos : Pos} (he : PE X e te) : PE X (.Subscript e (.Slice none none (some (.UnaryOp .USub (.Constant (.int 1) k p1) p2)) p3) pos) (tRevL K te) := by
  subst hK
  exact pe_revL he

/-! ### tuples that are made anew: their objects have no dict -/
def TpO (o : HO) (vs : List V) : Prop := ∃ ob : Obj, ob.dict = none ∧ o = .frz ob (.tup vs)
theorem TpO.sq {K : PySem.W.Frag} {H : Hp} {a : Addr} {o : HO} {vs : List V} (t : TpO o vs) (h : H a = some o) : SqT K H a vs := by
  obtain ⟨ob, _, rfl⟩ := t
  exact .inl (.inr ⟨ob, h⟩)
def tTupF (t : TA) : TE := fun σ H Q => t σ H fun xs H1 => xs.length ≤ sizeLine ∧ ∀ p o, H1 p = none → TpO o xs → Q (.ref p) (upd H1 p o)
theorem pe_tupF {X : Cx} {es : List Expr} {t : TA} {pos : Pos} {x1} (h : PA X es t) : PE X (.Tuple es x1 pos) (tTupF t) := by
  refine ⟨fun pins s σ H Q I hq => ?_⟩
  refine wpAny_Tuple_spliced (thn (h.run pos pins s σ H _ I hq) fun us s1 ⟨xs, H1, I1, r, z, q⟩ => ⟨by rw [← r.length]; exact z, ?_⟩)
  have hf : H1 s1.heap.objs.size = none := I1.hok.fresh (Nat.le_refl _)
  refine ⟨.ref s1.heap.objs.size, upd H1 s1.heap.objs.size (.frz { cls := .type "tuple", data := .seq us.toArray } (.tup xs)), I1.laid (t' := s1.toks) (fun b u e => Heap.get?_push_of_some _ e) (Nat.le_refl _) ?_, rfl, q _ _ hf ⟨_, rfl, rfl⟩⟩
  exact ⟨Heap.get?_push_size _ rfl, z, us, r, ⟨_, Heap.get?_push_size _ rfl, rfl, _, rfl⟩⟩
def rTupF (K : PySem.W.Frag) : List V → Hp → VK → Prop := fun xs H Q => ∃ p ys, xs = [V.ref p] ∧ ((SqL K H p ys ∧ ∀ l o, H l = none → TpO o ys → Q (.ref l) (upd H l o)) ∨ (SqT K H p ys ∧ Q (.ref p) H))
theorem ktupF {X : Cx} {K : PySem.W.Frag} (hK : X.K = K) : CallR X (.type "tuple") (rTupF K) := by
  subst hK
  intro pins s σ H xs us Q I r h
  obtain ⟨p, ys, rfl, h⟩ := h
  obtain ⟨u, rfl, ru⟩ := vals1 r
  cases ru
  rcases h with ⟨hs, q⟩ | ⟨hs, q⟩
  · obtain ⟨its, rv, pl, hz⟩ := I.list hs
    refine call_tuple_list pl.isList (fun h' hk => ?_) (by rw [List.size_toArray, ← rv.length]; exact hz)
    have I1 : Inv X pins σ H { s with heap := h' } := I.kept (t' := s.toks) hk
    have I2 : Inv X pins σ (upd H h'.objs.size (.frz { cls := .type "tuple", data := .seq its.toArray } (.tup ys))) { s with heap := h'.push { cls := .type "tuple", data := .seq its.toArray } } :=
      I1.laid (t' := s.toks) (fun b o e => Heap.get?_push_of_some _ e) (Nat.le_refl _) (show ObjOk X.prog X.w _ _ _ (.frz _ (.tup ys)) from ⟨Heap.get?_push_size _ rfl, hz, its, rv, IsTup.new _ _⟩)
    exact ⟨.ref h'.objs.size, _, I2, rfl, q _ _ (I1.hok.fresh (Nat.le_refl _)) ⟨_, rfl, rfl⟩⟩
  · obtain ⟨its, rv, pl, hz⟩ := I.tuple hs
    exact call_tuple_tup pl ⟨.ref p, H, I, rfl, q⟩
/-- t[lo:hi]: the whole of it is t itself -/
def rSlF (K : PySem.W.Frag) : V → Option Int → Option Int → Hp → VK → Prop := fun x lo hi H Q => ∃ a xs, x = .ref a ∧ SqT K H a xs ∧
  (HT.sIx xs.length 0 lo = 0 ∧ HT.sIx xs.length xs.length hi = xs.length → Q (.ref a) H) ∧ (¬ (HT.sIx xs.length 0 lo = 0 ∧ HT.sIx xs.length xs.length hi = xs.length) → ∀ p o, H p = none → TpO o (cutV xs lo hi) → Q (.ref p) (upd H p o))
theorem kslF {X : Cx} {K : PySem.W.Frag} (hK : X.K = K) : SlR X (rSlF K) := by
  subst hK
  intro pins s σ H x v vl vu lo hi sl Q I rx hs pl pu h
  obtain ⟨a, xs, rfl, hx, q1, q2⟩ := h
  cases rx
  obtain ⟨its, r, ht, hz⟩ := I.tuple hx
  have hlen : its.toArray.size = xs.length := by rw [List.size_toArray]; exact r.length.symm
  by_cases hw : HT.sIx xs.length 0 lo = 0 ∧ HT.sIx xs.length xs.length hi = xs.length
  · refine ⟨"tuple", _, PyProof.Rows.slot_tuple_getitem.lookup, ht.typeIs, ?_⟩
    exact getItem_tuple_whole ht hs pl pu (by rw [hlen]; exact hw) ⟨.ref a, H, I, rfl, q1 hw⟩
  · refine ⟨"tuple", _, PyProof.Rows.slot_tuple_getitem.lookup, ht.typeIs, ?_⟩
    refine HT.getItem_tuple_cut ht hs pl pu (by rw [hlen]; exact hw) ?_ (by rw [hlen]; exact hz)
    rw [hlen]
    refine ⟨.ref s.heap.objs.size, _, I.laid (t' := s.toks) (o := .frz { cls := .type "tuple", data := .seq ((its.toArray.toList.drop (HT.sIx xs.length 0 lo)).take (HT.sIx xs.length xs.length hi - HT.sIx xs.length 0 lo)).toArray } (.tup (cutV xs lo hi))) (fun b ob q => Heap.get?_push_of_some _ q) (Nat.le_refl _) ?_, rfl, q2 hw _ _ (I.hok.fresh (Nat.le_refl _)) ⟨_, rfl, rfl⟩⟩
    exact ⟨Heap.get?_push_size _ rfl, Nat.le_trans (cutV_length xs lo hi) hz, _, (r.drop (HT.sIx xs.length 0 lo)).take (HT.sIx xs.length xs.length hi - HT.sIx xs.length 0 lo), IsTup.new _ _⟩
/-- t + u -/
def rCatF (K : PySem.W.Frag) : R2 := fun x y H Q => ∃ a b xs ys, x = .ref a ∧ y = .ref b ∧ SqT K H a xs ∧ SqT K H b ys ∧ xs.length + ys.length ≤ sizeLine ∧
  (xs = [] → Q (.ref b) H) ∧ (xs ≠ [] → ys = [] → Q (.ref a) H) ∧ (xs ≠ [] → ys ≠ [] → ∀ p o, H p = none → TpO o (xs ++ ys) → Q (.ref p) (upd H p o))
theorem kcatF {X : Cx} {K : PySem.W.Frag} (hK : X.K = K) : OpR X (binaryOp .Add) (rCatF K) := by
  subst hK
  intro pins s σ H x y v u Q I rx ry h
  obtain ⟨a, b, xs, ys, rfl, rfl, ha, hb, hz, q0, q1, q2⟩ := h
  cases rx
  cases ry
  obtain ⟨its, r1, p1, _⟩ := I.tuple ha
  obtain ⟨its2, r2, p2, _⟩ := I.tuple hb
  by_cases hx : xs = []
  · subst hx
    cases r1
    exact cat_tup0 p1 p2 ⟨.ref b, H, I, rfl, q0 rfl⟩
  · refine HT.cat_tup p1 p2 (fun z => hx (r1.nil_iff.mp z)) (fun z => ⟨.ref a, H, I, rfl, q1 hx (r2.nil_iff.mp z)⟩) (fun z => ?_) (by rw [← r1.length, ← r2.length]; exact hz)
    refine ⟨.ref s.heap.objs.size, _, I.laid (t' := s.toks) (o := .frz { cls := .type "tuple", data := .seq (its ++ its2).toArray } (.tup (xs ++ ys))) (fun b ob q => Heap.get?_push_of_some _ q) (Nat.le_refl _) ?_, rfl, q2 hx (fun w => z (r2.nil_iff.mpr w)) _ _ (I.hok.fresh (Nat.le_refl _)) ⟨_, rfl, rfl⟩⟩
    exact ⟨Heap.get?_push_size _ rfl, by rw [List.length_append]; exact hz, _, r1.append r2, IsTup.new _ _⟩
/-- t[::-1] -/
def tRevF (K : PySem.W.Frag) (te : TE) : TE := fun σ H Q => te σ H fun x H1 => ∃ a xs, x = .ref a ∧ SqT K H1 a xs ∧ ∀ p o, H1 p = none → TpO o xs.reverse → Q (.ref p) (upd H1 p o)
theorem pe_revF {X : Cx} {K : PySem.W.Frag} (hK : X.K = K) {e : Expr} {te : TE} {k : Nat} {p1 p2 p3 pos : Pos} (he : PE X e te) : PE X (.Subscript e (.Slice none none (some (.UnaryOp .USub (.Constant (.int 1) k p1) p2)) p3) pos) (tRevF K te) := by
  subst hK
  refine ⟨fun pins s σ H Q I h => ?_⟩
  refine Subscript_ (thn (he.run pins s σ H _ I h) fun v s1 ⟨x, H1, I1, r1, q1⟩ => ?_)
  obtain ⟨a, xs, ex, hx, q⟩ := q1
  subst ex
  cases r1
  have hst : PO X (some (.UnaryOp .USub (.Constant (.int 1) k p1) p2)) (tPart (tUn (rU fun i => .int (-i)) (tC (.int 1)))) := po_some (pe_un un_neg pe_int)
  refine wpAny_Slice (thn (po_none.run pins s1 σ H1 (fun o H2 => o = none ∧ H2 = H1) I1 ⟨rfl, rfl⟩) fun vl s2 ⟨l, H2, I2, pl, el, e2⟩ => ?_)
  subst el e2
  refine thn (po_none.run pins s2 σ H2 (fun o H3 => o = none ∧ H3 = H2) I2 ⟨rfl, rfl⟩) fun vu s3 ⟨u, H3, I3, pu, eu, e3⟩ => ?_
  subst eu e3
  refine thn (hst.run pins s3 σ H3 (fun o H4 => o = some (-1) ∧ H4 = H3) I3 ⟨1, rfl, -1, rfl, rfl, rfl⟩) fun vs s4 ⟨o, H4, I4, ps, eo, e4⟩ => ?_
  subst eo e4
  have I5 : Inv X pins σ H4 { s4 with heap := s4.heap.push { cls := .type "slice", data := .fields #[vl, vu, vs] } } := I4.kept (t' := s4.toks) fun b ob q => Heap.get?_push_of_some _ q
  obtain ⟨its, r, ht, hz⟩ := I5.tuple hx
  have hlen := r.length
  show wpAny (model X.prog X.w) X.A (subscriptTail e (.Slice none none (some (.UnaryOp .USub (.Constant (.int 1) k p1) p2)) p3) (.ref a) (.ref s4.heap.objs.size)) (EP X pins σ Q) X.xe { s4 with heap := s4.heap.push { cls := .type "slice", data := .fields #[vl, vu, vs] } }
  refine tail_any (ops := [.ref a, .ref s4.heap.objs.size]) ht.typeIs (PyProof.Rows.slot_tuple_getitem.lookup) ?_ (by with_unfolding_all rfl)
  refine getItem_tuple_rev ht (Heap.IsSliceOf.new _ vl vu vs) pl pu ps ?_ (by rw [List.size_toArray]; omega)
  refine ⟨.ref _, _, I5.laid (t' := s4.toks) (o := .frz { cls := .type "tuple", data := .seq its.toArray.toList.reverse.toArray } (.tup xs.reverse)) (fun b ob q => Heap.get?_push_of_some _ q) (Nat.le_refl _) ?_, rfl, q _ _ (I5.hok.fresh (Nat.le_refl _)) ⟨_, rfl, rfl⟩⟩
  exact ⟨Heap.get?_push_size _ rfl, by rw [List.length_reverse]; exact hz, _, r.reverse, IsTup.new _ _⟩
/-! .index of a tuple without a dict -/
def tTM (K : PySem.W.Frag) (r : V → List V → Hp → VK → Prop) (to : TE) (t : TA) : TE := fun σ H Q => to σ H fun x H1 => (∃ a o vs, x = .ref a ∧ H1 a = some o ∧ TpO o vs) ∧ t σ H1 fun xs H2 => r x xs H2 Q
theorem pe_tm {X : Cx} {K : PySem.W.Frag} (hK : X.K = K) {o e : Expr} {es : List Expr} {to : TE} {t : TA} {name : Str} {apos cpos : Pos} {id : String} {r : V → List V → Hp → VK → Prop}
    (slot : Slot "tuple" name id) (hty : typeOf (.builtin id) = pure (.type "method_descriptor")) (hm : MtR X id r) (ho : PE X o to) (ha : PA X (e :: es) t)
    (hbase : attributeBase o name X.env (eval o X.env) = eval o X.env := by rfl)
    (hfew : ((backTo cpos (starEach (e :: es) X.env)).all (fun x => !x.1) && (backToKw cpos (keywordEach [] X.env)).all (fun x => x.1.isSome)
      && decide ((e :: es).length + ([] : List Keyword).length + (if ([] : List Keyword).isEmpty then 0 else 1) < 30)) = true := by rfl)
    (hline : (apos.endLine == cpos.line) = true := by rfl) (hs : starEach (e :: es) X.env = (false, eval e X.env) :: starEach es X.env := by rfl) (hplain : (backTo cpos (starEach es X.env)).any (·.1) = false := by rfl) :
    PE X (.Call (.Attribute o name apos) (e :: es) [] cpos) (tTM K r to t) := by
  subst hK
  refine ⟨fun pins s σ H Q I h => ?_⟩
  refine wpAny_Call_method_late hbase hfew hline rfl (thn (ho.run pins s σ H _ I h) fun v s1 ⟨x, H1, I1, r1, ty, q1⟩ => ?_)
  obtain ⟨a, o', vs, rfl, hA, ob, hd, rfl⟩ := ty
  cases r1
  obtain ⟨g1, _, its, _, ob2, g2, g3, _⟩ := (show ObjOk X.prog X.w H1 s1.heap a (.frz ob (.tup vs)) from I1.hok a _ hA)
  rw [g1] at g2
  cases g2
  refine ⟨"tuple", id, PySem.F.plainAttrs_tuple, slot, hty, ⟨ob, g1, g3⟩, fun b e => by cases e; exact ⟨ob, g1, hd⟩, ?_⟩
  have hA := ha.run cpos pins s1 σ H1 _ I1 q1
  rw [hs] at hA ⊢
  refine Calls.callWith_builtin (by show (false || (backTo cpos (starEach es X.env)).any (·.1)) = false; rw [hplain] <;> rfl) (Calls.evalArgs_plain ?_)
  exact thn hA fun us s2 ⟨vs', H2, I2, r2, q2⟩ => hm pins s2 σ H2 (.ref a) vs' (.ref a) us Q I2 rfl r2 q2
def rTIndex (K : PySem.W.Frag) : V → List V → Hp → VK → Prop := fun x xs H Q => ∃ p, ∃ ys : List Str, ∃ z j, x = .ref p ∧ xs = [.str z] ∧ SqT K H p (ys.map V.str) ∧ ys[j]? = some z ∧ (∀ m, m < j → ys[m]? ≠ some z) ∧ Q (.int (j : Nat)) H
theorem ktindex {X : Cx} {K : PySem.W.Frag} (hK : X.K = K) : MtR X "tuple.index" (rTIndex K) := by
  subst hK
  exact mt_tup_index

/-! ### zip, its pairs without a dict -/
/-- the turns of a zip of a and b -/
def ItzF (k1 k2 : Bool) (K : PySem.W.Frag) (a b : Addr) : It where
  go := fun i H => ∃ (xs ys : List V) (x y : V), SqK k1 K H a xs ∧ SqK k2 K H b ys ∧ xs[i]? = some x ∧ ys[i]? = some y
  yld := fun i H v H' => ∃ T x y o, v = .ref T ∧ H T = none ∧ TpO o [x, y] ∧ H' = upd H T o ∧ (∀ xs, SqK k1 K H a xs → xs[i]? = some x) ∧ ∀ ys, SqK k2 K H b ys → ys[i]? = some y
  stop := fun i H => ∃ xs ys : List V, SqK k1 K H a xs ∧ SqK k2 K H b ys ∧ i ≤ xs.length ∧ i ≤ ys.length ∧ (i = xs.length ∨ i = ys.length)
theorem turnF {P : Program} {w : World} {K : PySem.W.Frag} {elts : List Expr} {kk : Nat} {tpos : Pos} {k1 k2 : Bool} {a b z TI TO i1 i2 : Addr} (D : ZipApart z TI TO i1 i2 a b) :
    Turn P w K (.Tuple elts kk tpos) (ItzF k1 k2 K a b) [z, TI, TO, i1, i2] z
      (fun i h => IsZip h z TI TO .none ∧ IsPair h TI (.ref i1) (.ref i2) ∧ (∃ x y, IsPair h TO x y) ∧ ItK k1 h i1 a i ∧ ItK k2 h i2 b i) where
  mem := by simp
  obj := fun i h st c hc => by
    obtain ⟨hz, hTI, ⟨x, y, hTO⟩, g1, g2⟩ := st
    simp only [List.mem_cons, List.not_mem_nil, or_false] at hc
    rcases hc with rfl | rfl | rfl | rfl | rfl
    · exact ⟨_, hz, fun v q => nomatch q⟩
    · exact ⟨_, hTI, fun v q => nomatch q⟩
    · exact ⟨_, hTO, fun v q => nomatch q⟩
    · exact g1.obj
    · exact g2.obj
  keep := fun i h h' st q => by
    obtain ⟨hz, hTI, ⟨x, y, hTO⟩, g1, g2⟩ := st
    exact ⟨q z (by simp) _ hz, q TI (by simp) _ hTI, ⟨x, y, q TO (by simp) _ hTO⟩, g1.at fun o => q i1 (by simp) o, g2.at fun o => q i2 (by simp) o⟩
  item := by
    intro X hP hw hK hc i pins s σ H E I hf st hg
    subst hP hw hK
    obtain ⟨hz, hTI, ⟨x0, y0, hTO⟩, g1, g2⟩ := st
    obtain ⟨xs, ys, x, y, qx, qy, hx, hy⟩ := hg
    obtain ⟨us, ru, pu, _⟩ := seqK I qx
    obtain ⟨vs, rv, pv, _⟩ := seqK I qy
    obtain ⟨u, hu, ru1⟩ := ru.get hx
    obtain ⟨v, hv, rv1⟩ := rv.get hy
    have zl : z < s.heap.objs.size := Heap.lt_size hz
    have lu : i < us.toArray.size := by simpa using (List.getElem?_eq_some_iff.mp hu).1
    have lv : i < vs.toArray.size := by simpa using (List.getElem?_eq_some_iff.mp hv).1
    have hh : X.A.in1.handled = none := I.ok.hd hc
    have d1 := drK (prog := X.prog) (w := X.w) (A := X.A.in1) k1 hh D.l1i1 us.toArray
    have d2 := drK (prog := X.prog) (w := X.w) (A := X.A.in1) k2 hh D.l2i2 vs.toArray
    refine wpAny_pyNext_zipD2_item (sepK D) d1 d2 hz hTI hTO ⟨g1, pu⟩ ⟨g2, pv⟩ lu lv fun u' v' h' tk eu ev z1 t1 s1 s2 hT hsz hk => ?_
    have eu' : u' = u := by
      have : us.toArray[i]? = some u := by simpa using hu
      rw [this] at eu
      exact (Option.some.inj eu).symm
    have ev' : v' = v := by
      have : vs.toArray[i]? = some v := by simpa using hv
      rw [this] at ev
      exact (Option.some.inj ev).symm
    subst eu' ev'
    refine ⟨_, rfl, wpAny_letOwnedTupleGo_zip (s := { s with heap := h', toks := tk }) z1 fun h2 z2 sb => ?_⟩
    have hT2 : IsPair h2 s.heap.objs.size u' v' := (sb.2 _ (Nat.ne_of_gt zl)).trans hT
    have new : ObjOk X.prog X.w (upd H s.heap.objs.size (.frz { cls := .type "tuple", data := .seq #[u', v'] } (.tup [x, y]))) h2 s.heap.objs.size (.frz { cls := .type "tuple", data := .seq #[u', v'] } (.tup [x, y])) := ⟨hT2, Nat.le_of_ble_eq_true rfl, [u', v'], .cons ru1 (.cons rv1 .nil), ⟨_, hT2, rfl, _, rfl⟩⟩
    have ks : ∀ c o, c ∉ [z, TI, TO, i1, i2] → s.heap.get? c = some o → h2.get? c = some o := fun c o hb q => by
      simp only [List.mem_cons, List.not_mem_nil, or_false, not_or] at hb
      exact (sb.2 c hb.1).trans (hk c o hb.1 hb.2.2.1 hb.2.2.2.1 hb.2.2.2.2 q)
    have J := I.turnedNew (t' := tk) (ch := [z, TI, TO, i1, i2]) ks hf (Nat.le_refl _) new
    refine ⟨V.ref s.heap.objs.size, _, J, rfl, ⟨_, x, y, _, rfl, I.hok.fresh (Nat.le_refl _), ⟨_, rfl, rfl⟩, rfl, fun l hl => by rw [seqK_inj I hl qx]; exact hx, fun l hl => by rw [seqK_inj I hl qy]; exact hy⟩, ⟨z2, ?_, ⟨u', v', (sb.2 _ D.TOz).trans t1⟩, s1.1.at fun o q => (sb.2 _ D.i1z).trans q, s2.1.at fun o q => (sb.2 _ D.i2z).trans q⟩, fun c hcm => ?_⟩
    · exact (sb.2 _ D.TIz).trans (hk _ _ D.TIz D.TITO D.TIi1 D.TIi2 hTI)
    · have hlt : c < s.heap.objs.size := by
        simp only [List.mem_cons, List.not_mem_nil, or_false] at hcm
        rcases hcm with rfl | rfl | rfl | rfl | rfl
        · exact zl
        · exact Heap.lt_size hTI
        · exact Heap.lt_size hTO
        · obtain ⟨_, e, _⟩ := g1.obj
          exact Heap.lt_size e
        · obtain ⟨_, e, _⟩ := g2.obj
          exact Heap.lt_size e
      rw [upd_ne (Nat.ne_of_lt hlt)]
      exact (hf c hcm).1
  done := by
    intro X hP hw hK hc i pins s σ H E I hf st hg
    subst hP hw hK
    obtain ⟨hz, hTI, ⟨x0, y0, hTO⟩, g1, g2⟩ := st
    obtain ⟨xs, ys, qx, qy, lx, ly, hend⟩ := hg
    obtain ⟨us, ru, pu, _⟩ := seqK I qx
    obtain ⟨vs, rv, pv, _⟩ := seqK I qy
    have e1 := ru.length
    have e2 := rv.length
    have hh : X.A.in1.handled = none := I.ok.hd hc
    have d1 := drK (prog := X.prog) (w := X.w) (A := X.A.in1) k1 hh D.l1i1 us.toArray
    have d2 := drK (prog := X.prog) (w := X.w) (A := X.A.in1) k2 hh D.l2i2 vs.toArray
    refine wpAny_pyNext_zipD2_end (sepK D) d1 d2 hz hTI hTO ⟨g1, pu⟩ ⟨g2, pv⟩ (by simp; omega) (by simp; omega) (by simp; omega) fun h' tk hk => ⟨rfl, I.turnedL (t' := tk) (ch := [z, TI, TO, i1, i2]) (fun c o hb q => ?_) hf⟩
    simp only [List.mem_cons, List.not_mem_nil, or_false, not_or] at hb
    exact hk c o hb.1 hb.2.2.1 hb.2.2.2.1 hb.2.2.2.2 q
  self := fun A i s Q E st h => wpAny_pyIter_zip st.1 h
/-- zip(e, e2): the kinds told -/
def iZipF (k1 k2 : Bool) (K : PySem.W.Frag) (ta : TA) : TI := fun σ H R => ta σ H fun vs H1 => ∃ a b xs ys, vs = [.ref a, .ref b] ∧ SqK k1 K H1 a xs ∧ SqK k2 K H1 b ys ∧ R (ItzF k1 k2 K a b) H1
theorem pi_zipF (k1 k2 : Bool) {X : Cx} {K : PySem.W.Frag} (hK : X.K = K) {e e2 : Expr} {ta : TA} {p pos tpos : Pos} {elts : List Expr} {kk : Nat} (hg : Gl X "zip") (hm : X.mg "zip" = none) (ha : PA X [e, e2] ta)
    (hs : starEach [e, e2] X.env = (false, eval e X.env) :: starEach [e2] X.env := by rfl) (hpl : (backTo pos (starEach [e2] X.env)).any (·.1) = false := by rfl) :
    PI X (.Tuple elts kk tpos) (.Call (.Name "zip" p) [e, e2] [] pos) (iZipF k1 k2 K ta) := by
  subst hK
  refine ⟨fun pins s σ H R I h => Call_ (ld_blt I hg hm PyProof.Rows.boot_zip (PyProof.Rows.callWith_type1 (thn (ha.run pos pins s σ H _ I h) fun us s1 hh => ?_) hs hpl))⟩
  obtain ⟨vs, H1, I1, r1, a, b, xs, ys, rfl, qx, qy, q⟩ := hh
  obtain ⟨u1, u2, rfl, ru, rv⟩ := vals2 r1
  cases (show u1 = Value.ref a from ru)
  cases (show u2 = Value.ref b from rv)
  obtain ⟨us, _, pu, _⟩ := seqK I1 qx
  obtain ⟨ws, _, pw, _⟩ := seqK I1 qy
  refine zip_begins2 (bgK k1 a us.toArray) (bgK k2 b ws.toArray) pu pw fun h' hz hTI hTO o1 o2 hsz hk => wpAny_pyIter_zip hz ?_
  have J : Inv X pins σ H1 { s1 with heap := h' } := I1.kept (t' := s1.toks) hk
  exact ⟨_, [s1.heap.objs.size + 4, s1.heap.objs.size + 2, s1.heap.objs.size + 3, s1.heap.objs.size, s1.heap.objs.size + 1], _, _, H1, rfl, J, turnF (PySem.W.ktu_apart s1.heap.objs.size a b pu.lt pw.lt), ⟨hz, hTI, ⟨_, _, hTO⟩, itK0 o1, itK0 o2⟩, fresh5 I1, q⟩

/-! ### enumerate(list or tuple), its pairs without a dict -/
theorem meets_enumerate_newT (l : Addr) (items : Array Value) (n : Nat) (dct : Option Addr) (sl : Array (Option Value)) :
    Meets (Builtin.«enumerate.__new__» ⟨[.type "enumerate", .ref l], []⟩) (fun _ R s => s.heap.get? l = some { cls := .type "tuple", dict := dct, data := .seq items n, slots := sl } ∧
      R (.ok (.ret (.ref (s.heap.push { cls := .type "tuple_iterator", data := .fields #[.ref l, .int 0 0] }).objs.size)))
        { s with heap := (s.heap.push { cls := .type "tuple_iterator", data := .fields #[.ref l, .int 0 0] }).push { cls := .type "enumerate", data := .fields #[.none, .bool false, .ref s.heap.objs.size, rawInt 0, .none, .none] } }) :=
  .of_wp fun prog w A R s h => by
    obtain ⟨hp, g, d, tk, os⟩ := s; obtain ⟨hl, h⟩ := h
    have hsub := sub_enumerate
    have hL : Heap.IsTuple (Shared.heap ⟨hp, g, d, tk, os⟩) l items := ⟨_, hl, rfl, n, rfl⟩
    wp_walk using AutoSeq1.wpAny_loadPart' hl
    refine wpAny_stack_any fun st => wpAny_pure ?_
    split
    · rename_i c _ _ _ _ _
      cases (c == Value.type "enumerate")
      · wp_walk using AutoSeq1.wpAny_loadPart' hl, wpAny_pyIter_tuple hL
        exact ⟨_, rfl, h⟩
      · wp_walk using AutoSeq1.wpAny_loadPart' hl, wpAny_pyIter_tuple hL
        exact ⟨_, rfl, h⟩
    · wp_walk using AutoSeq1.wpAny_loadPart' hl, wpAny_pyIter_tuple hL
      exact ⟨_, rfl, h⟩
theorem call_enumerate_tup {prog : Program} {w : World} {A : Around} {E : Value → Shared → Prop} {s : Shared} {l : Addr} {items : Array Value} {Q : Value → Shared → Prop} (hL : s.heap.IsTuple l items)
    (h : ∀ h', IsEnum h' (s.heap.objs.size + 1) s.heap.objs.size 0 .none → h'.IsTupleIter s.heap.objs.size l 0 → h'.objs.size = s.heap.objs.size + 2 →
      (∀ b o, s.heap.get? b = some o → h'.get? b = some o) → Q (.ref (s.heap.objs.size + 1)) { s with heap := h' }) :
    wpAny (model prog w) A (call (.type "enumerate") [.ref l]) Q E s := by
  obtain ⟨⟨c, dct, dt, sl⟩, hl, hc, n, hd⟩ := hL
  replace hc : c = .type "tuple" := hc
  replace hd : dt = .seq items n := hd
  subst hc hd
  refine callType_new F.called_enumerate (by decide) (F.typeCall_enumerate_1 _) (F.newCall_enumerate_1 _) (fun obj => F.args_object_init_2 obj _) F.entry_enumerate_new
    (meets_enumerate_newT l items n dct sl) ⟨hl, ?_⟩
  have hz : (s.heap.push { cls := .type "tuple_iterator", data := .fields #[.ref l, .int 0 0] }).objs.size = s.heap.objs.size + 1 := Heap.size_push ..
  show _ ∧ _
  rw [hz]
  have he : IsEnum ((s.heap.push { cls := .type "tuple_iterator", data := .fields #[.ref l, .int 0 0] }).push { cls := .type "enumerate", data := .fields #[.none, .bool false, .ref s.heap.objs.size, rawInt 0, .none, .none] }) (s.heap.objs.size + 1) s.heap.objs.size 0 .none := by
    have := Heap.get?_push_size (s.heap.push { cls := .type "tuple_iterator", data := .fields #[.ref l, .int 0 0] }) (o := { cls := .type "enumerate", data := .fields #[.none, .bool false, .ref s.heap.objs.size, rawInt 0, .none, .none] }) rfl
    rw [hz] at this; exact this
  have hi : ((s.heap.push { cls := .type "tuple_iterator", data := .fields #[.ref l, .int 0 0] }).push { cls := .type "enumerate", data := .fields #[.none, .bool false, .ref s.heap.objs.size, rawInt 0, .none, .none] }).get? s.heap.objs.size = some { cls := .type "tuple_iterator", data := .fields #[.ref l, .int 0 0] } := Heap.get?_push_of_some _ (Heap.get?_push_size _ rfl)
  exact ⟨⟨_, he, rfl⟩, h _ he ⟨_, hi, rfl, rfl⟩ (by rw [Heap.size_push, hz]) fun b o x => Heap.get?_push_of_some _ (Heap.get?_push_of_some _ x)⟩
def IteF (k : Bool) (K : PySem.W.Frag) (a : Addr) : It :=
  ⟨fun i H => ∃ (xs : List V) (x : V), SqK k K H a xs ∧ xs[i]? = some x, fun i H v H' => ∃ T x o, v = .ref T ∧ H T = none ∧ TpO o [.int (i : Nat), x] ∧ H' = upd H T o ∧ ∀ xs, SqK k K H a xs → xs[i]? = some x, fun i H => ∃ xs : List V, SqK k K H a xs ∧ i = xs.length⟩
theorem turn_enumF {P : Program} {w : World} {K : PySem.W.Frag} {elts : List Expr} {kk : Nat} {tpos : Pos} {k : Bool} (a e it : Addr) (hae : a ≠ e) (hai : a ≠ it) :
    Turn P w K (.Tuple elts kk tpos) (IteF k K a) [e, it] e (fun i h => (∃ old, IsEnum h e it ((i : Nat) : Int) old) ∧ ItK k h it a i ∧ e ≠ it) where
  mem := by simp
  obj := fun i h st b hb => by
    obtain ⟨⟨old, he⟩, hi, _⟩ := st
    have e' : b = e ∨ b = it := by simpa using hb
    rcases e' with z | z
    · rw [z]; exact ⟨_, he, fun v q => nomatch q⟩
    · rw [z]; exact hi.obj
  keep := fun i h h' st k => let ⟨⟨old, he⟩, hi, hne⟩ := st; ⟨⟨old, k e (by simp) _ he⟩, hi.at fun o q => k it (by simp) o q, hne⟩
  item := by
    intro X hP hw hK hc i pins s σ H E I hf st hg
    subst hP hw hK
    obtain ⟨⟨old, he⟩, hit, hne⟩ := st
    obtain ⟨xs, x, hq, hx⟩ := hg
    obtain ⟨its, rv, p, hz⟩ := seqK I hq
    obtain ⟨u, hu, ru⟩ := rv.get hx
    have hel : e < s.heap.objs.size := Heap.lt_size he
    have hil : it < s.heap.objs.size := by obtain ⟨_, q, _⟩ := hit.obj; exact Heap.lt_size q
    have hh : X.A.in1.handled = none := I.ok.hd hc
    have lu : i < its.toArray.size := by simpa using (List.getElem?_eq_some_iff.mp hu).1
    have d1 := drK (prog := X.prog) (w := X.w) (A := X.A.in1) k hh hai its.toArray
    refine wpAny_pyNext_enum_itemC d1 he ⟨hit, p⟩ lu hne (by simp [hne, Ne.symm hae]) fun u' h' tk eu ho st' hT hsz hk => ?_
    have eu' : u' = u := by
      have : its.toArray[i]? = some u := by simpa using hu
      rw [this] at eu
      exact (Option.some.inj eu).symm
    subst eu'
    refine ⟨_, rfl, wpAny_letOwnedTupleGo_enum (s := { s with heap := h', toks := tk + 1 }) ho fun h'' he' sb => ?_⟩
    have hT2 : h''.get? s.heap.objs.size = some { cls := .type "tuple", data := .seq #[.int i tk, u'] } := (sb.2 _ (Nat.ne_of_gt hel)).trans hT
    have new : ObjOk X.prog X.w (upd H s.heap.objs.size (.frz { cls := .type "tuple", data := .seq #[.int i tk, u'] } (.tup [.int (i : Nat), x]))) h'' s.heap.objs.size (.frz { cls := .type "tuple", data := .seq #[.int i tk, u'] } (.tup [.int (i : Nat), x])) :=
      ⟨hT2, by show 2 ≤ sizeLine; decide, [.int i tk, u'], .cons ⟨_, rfl⟩ (.cons ru .nil), ⟨_, hT2, rfl, _, rfl⟩⟩
    have I1 : Inv X pins σ (upd H s.heap.objs.size (.frz { cls := .type "tuple", data := .seq #[.int i tk, u'] } (.tup [.int (i : Nat), x]))) { s with heap := h'', toks := tk + 1 } :=
      I.turnedNew (t' := tk + 1) (ch := [e, it]) (fun b ob hb q => (sb.2 b (fun z => hb (by simp [z]))).trans (hk b ob (fun z => hb (by simp [z])) (fun z => hb (by simp [z])) q)) hf (Nat.le_refl _) new
    refine ⟨.ref s.heap.objs.size, _, I1, rfl, ⟨_, x, _, rfl, I.hok.fresh (Nat.le_refl _), ⟨_, rfl, rfl⟩, rfl, fun ys hy => by rw [seqK_inj I hy hq]; exact hx⟩, ⟨⟨u', ?_⟩, st'.1.at fun o q => (sb.2 it (Ne.symm hne)).trans q, hne⟩, fun b hb => ?_⟩
    · have e1 : ((i + 1 : Nat) : Int) = (i : Int) + 1 := by omega
      rw [e1]; exact he'
    · have hb' : b < s.heap.objs.size := by
        have e' : b = e ∨ b = it := by simpa using hb
        rcases e' with z | z
        · rw [z]; exact hel
        · rw [z]; exact hil
      rw [upd_ne (Nat.ne_of_lt hb')]
      exact (hf b hb).1
  done := by
    intro X hP hw hK hc i pins s σ H E I hf st hg
    subst hP hw hK
    obtain ⟨⟨old, he⟩, hit, hne⟩ := st
    obtain ⟨xs, hq, rfl⟩ := hg
    obtain ⟨its, rv, p, hz⟩ := seqK I hq
    have hl := rv.length
    have hh : X.A.in1.handled = none := I.ok.hd hc
    have d1 := drK (prog := X.prog) (w := X.w) (A := X.A.in1) k hh hai its.toArray
    have hs : StK k it a its.toArray its.toArray.size s.heap := by
      rw [List.size_toArray, ← hl]
      exact ⟨hit, p⟩
    refine wpAny_pyNext_enum_endD d1 he hs fun h' eb => ⟨rfl, I.turnedL (t' := s.toks) (ch := [e, it]) (fun b o hb q => eb b o (fun z => hb (by simp [z])) q) hf⟩
  self := fun A i s Q E st h => let ⟨⟨_, he⟩, _⟩ := st; wpAny_pyIter_enum he h
def iEnumF (k : Bool) (K : PySem.W.Frag) (ta : TA) : TI := fun σ H R => ta σ H fun vs H1 => ∃ a xs, vs = [.ref a] ∧ SqK k K H1 a xs ∧ R (IteF k K a) H1
theorem pi_enumF (k : Bool) {X : Cx} {K : PySem.W.Frag} (hK : X.K = K) {e : Expr} {ta : TA} {p pos tpos : Pos} {elts : List Expr} {kk : Nat} (hg : Gl X "enumerate") (hm : X.mg "enumerate" = none) (ha : PA X [e] ta) (hs : starEach [e] X.env = [(false, eval e X.env)] := by rfl) :
    PI X (.Tuple elts kk tpos) (.Call (.Name "enumerate" p) [e] [] pos) (iEnumF k K ta) := by
  subst hK
  refine ⟨fun pins s σ H R I h => ?_⟩
  refine Call_ (ld_blt I hg hm boot_enumerate (PyProof.Rows.callWith_type1 (thn (ha.run pos pins s σ H _ I h) fun us s1 ⟨vs, H1, I1, r1, q1⟩ => ?_) hs rfl))
  obtain ⟨a, xs, ex, hq, q⟩ := q1
  subst ex
  cases r1 with
  | cons r rr =>
    cases rr
    cases r
    obtain ⟨its, rv, p', hz⟩ := seqK I1 hq
    have fin : ∀ h', IsEnum h' (s1.heap.objs.size + 1) s1.heap.objs.size 0 .none → ItK k h' s1.heap.objs.size a 0 → (∀ b o, s1.heap.get? b = some o → h'.get? b = some o) →
        wpAny (model X.prog X.w) X.A (pyIter (.ref (s1.heap.objs.size + 1))) (PIE X pins σ (.Tuple elts kk tpos) R) X.xe { s1 with heap := h' } := fun h' he hit hk => wpAny_pyIter_enum he (by
      have I2 : Inv X pins σ H1 { s1 with heap := h' } := I1.kept (t' := s1.toks) hk
      have la : a < s1.heap.objs.size := p'.lt
      refine ⟨s1.heap.objs.size + 1, [s1.heap.objs.size + 1, s1.heap.objs.size], _, _, H1, rfl, I2, turn_enumF a (s1.heap.objs.size + 1) s1.heap.objs.size (Nat.ne_of_lt (Nat.lt_succ_of_lt la)) (Nat.ne_of_lt la), ⟨⟨.none, he⟩, hit, Nat.succ_ne_self _⟩, fun b hb => ?_, q⟩
      have e' : b = s1.heap.objs.size + 1 ∨ b = s1.heap.objs.size := by simpa using hb
      have hle : s1.heap.objs.size ≤ b := by
        rcases e' with z | z
        · rw [z]; exact Nat.le_add_right _ _
        · rw [z]; exact Nat.le_refl _
      exact I1.fpOk hle (I1.hok.fresh hle))
    cases k with
    | true => exact call_enumerate_tup p' fun h' he hit hsz hk => fin h' he hit hk
    | false => exact call_enumerate_list p' fun h' he hit hsz hk => fin h' he hit hk

/-! ### values as data, apart from the heap -/
inductive Dat where
  | non | bl (b : Bool) | int (i : Int) | str (x : Str) | pool
  | lst (xs : List Dat) | tup (xs : List Dat)
  | obj (k : Nat) (ds : List Dat)
  | dK (kvs : List (Key × Dat))
  | cell (a : Addr)
/-- what stays as it is through a law: the written part, the pool and its copy of the script -/
structure Wd where
  K : PySem.W.Frag
  ca : Nat → Addr
  po : Option (Addr × Addr)
/-- the attributes of the objects of each class, by the class's number -/
def clsN : Nat → List Str
  | 0 => ["p", "q", "bases"]
  | 1 => ["unknowns", "equations"]
  | 2 => ["statement", "choices"]
  | 3 => ["name", "fields"]
  | _ => []
/-- a tuple that stays as it is: it is among the settled objects, or it is written -/
def FzT (_ : Wd) (F : Addr → Prop) (H : Hp) (a : Addr) (vs : List V) : Prop := F a ∧ ∃ o, H a = some o ∧ TpO o vs
theorem FzT.sq {W : Wd} {F : Addr → Prop} {H : Hp} {a : Addr} {vs : List V} (h : FzT W F H a vs) : SqT W.K H a vs := by
  obtain ⟨_, o, e, t⟩ := h
  exact t.sq e
mutual
inductive Rv (W : Wd) (F : Addr → Prop) (H : Hp) : V → Dat → Prop
  | non : Rv W F H .non .non
  | bl (b : Bool) : Rv W F H (.bl b) (.bl b)
  | int (i : Int) : Rv W F H (.int i) (.int i)
  | str (x : Str) : Rv W F H (.str x) (.str x)
  | pool {p c : Addr} : W.po = some (p, c) → Rv W F H (.ref p) .pool
  | lst {a : Addr} {vs : List V} {ds : List Dat} : F a → H a = some (.lst vs) → RvAll W F H vs ds → Rv W F H (.ref a) (.lst ds)
  | tup {a : Addr} {vs : List V} {ds : List Dat} : FzT W F H a vs → RvAll W F H vs ds → Rv W F H (.ref a) (.tup ds)
  | obj {a dx : Addr} {k : Nat} {fs : List (Str × V)} {ds : List Dat} : F a → H a = some (.ins (W.ca k) dx fs) → RvFs W F H fs (clsN k) ds → (∀ m, m ∉ clsN k → fs.lookup m = none) → Rv W F H (.ref a) (.obj k ds)
  | dK {a : Addr} {kvs : List (Key × V)} {kds : List (Key × Dat)} : F a → H a = some (.dK kvs) → RvKv W F H kvs kds → Rv W F H (.ref a) (.dK kds)
  | cell (a : Addr) : Rv W F H (.ref a) (.cell a)
inductive RvAll (W : Wd) (F : Addr → Prop) (H : Hp) : List V → List Dat → Prop
  | nil : RvAll W F H [] []
  | cons {v : V} {vs : List V} {d : Dat} {ds : List Dat} : Rv W F H v d → RvAll W F H vs ds → RvAll W F H (v :: vs) (d :: ds)
inductive RvFs (W : Wd) (F : Addr → Prop) (H : Hp) : List (Str × V) → List Str → List Dat → Prop
  | nil {fs : List (Str × V)} : RvFs W F H fs [] []
  | cons {fs : List (Str × V)} {k : Str} {v : V} {d : Dat} {ks : List Str} {ds : List Dat} : fs.lookup k = some v → Rv W F H v d → RvFs W F H fs ks ds → RvFs W F H fs (k :: ks) (d :: ds)
inductive RvKv (W : Wd) (F : Addr → Prop) (H : Hp) : List (Key × V) → List (Key × Dat) → Prop
  | nil : RvKv W F H [] []
  | cons {k : Key} {v : V} {kvs : List (Key × V)} {d : Dat} {kds : List (Key × Dat)} : Rv W F H v d → RvKv W F H kvs kds → RvKv W F H ((k, v) :: kvs) ((k, d) :: kds)
end
/-- more is settled, what was settled stands as it was -/
def Sub (F : Addr → Prop) (H : Hp) (F' : Addr → Prop) (H' : Hp) : Prop := ∀ a, F a → F' a ∧ H' a = H a
theorem FzT.sub {W : Wd} {F F' : Addr → Prop} {H H' : Hp} {a : Addr} {vs : List V} (s : Sub F H F' H') (h : FzT W F H a vs) : FzT W F' H' a vs := by
  obtain ⟨f, o, e, t⟩ := h
  exact ⟨(s a f).1, o, (s a f).2.trans e, t⟩
section
variable {W : Wd} {F F' : Addr → Prop} {H H' : Hp}
mutual
theorem Rv.sub (s : Sub F H F' H') : ∀ {v : V} {d : Dat}, Rv W F H v d → Rv W F' H' v d
  | _, _, .non => .non
  | _, _, .bl b => .bl b
  | _, _, .int i => .int i
  | _, _, .str x => .str x
  | _, _, .pool h => .pool h
  | _, _, .lst f h r => .lst (s _ f).1 ((s _ f).2.trans h) (RvAll.sub s r)
  | _, _, .tup h r => .tup (h.sub s) (RvAll.sub s r)
  | _, _, .obj f h r n => .obj (s _ f).1 ((s _ f).2.trans h) (RvFs.sub s r) n
  | _, _, .dK f h r => .dK (s _ f).1 ((s _ f).2.trans h) (RvKv.sub s r)
  | _, _, .cell a => .cell a
theorem RvAll.sub (s : Sub F H F' H') : ∀ {vs : List V} {ds : List Dat}, RvAll W F H vs ds → RvAll W F' H' vs ds
  | _, _, .nil => .nil
  | _, _, .cons a r => .cons (Rv.sub s a) (RvAll.sub s r)
theorem RvFs.sub (s : Sub F H F' H') : ∀ {vs : List (Str × V)} {ks : List Str} {ds : List Dat}, RvFs W F H vs ks ds → RvFs W F' H' vs ks ds
  | _, _, _, .nil => .nil
  | _, _, _, .cons e a r => .cons e (Rv.sub s a) (RvFs.sub s r)
theorem RvKv.sub (s : Sub F H F' H') : ∀ {vs : List (Key × V)} {ds : List (Key × Dat)}, RvKv W F H vs ds → RvKv W F' H' vs ds
  | _, _, .nil => .nil
  | _, _, .cons a r => .cons (Rv.sub s a) (RvKv.sub s r)
end
theorem RvAll.length : ∀ {vs : List V} {ds : List Dat}, RvAll W F H vs ds → vs.length = ds.length
  | _, _, .nil => rfl
  | _, _, .cons _ r => congrArg (· + 1) (RvAll.length r)
theorem RvAll.get : ∀ {vs : List V} {ds : List Dat} {i : Nat} {d : Dat}, RvAll W F H vs ds → ds[i]? = some d → ∃ v, vs[i]? = some v ∧ Rv W F H v d
  | _, _, _, _, .nil, e => by simp at e
  | _, _, 0, _, .cons a _, e => by
    simp only [List.getElem?_cons_zero, Option.some.injEq] at e
    subst e
    exact ⟨_, rfl, a⟩
  | _, _, i + 1, _, .cons _ r, e => by
    simp only [List.getElem?_cons_succ] at e
    obtain ⟨v, h1, h2⟩ := RvAll.get (i := i) r e
    exact ⟨v, h1, h2⟩
theorem RvAll.getV : ∀ {vs : List V} {ds : List Dat} {i : Nat} {v : V}, RvAll W F H vs ds → vs[i]? = some v → ∃ d, ds[i]? = some d ∧ Rv W F H v d
  | _, _, _, _, .nil, e => by simp at e
  | _, _, 0, _, .cons a _, e => by
    simp only [List.getElem?_cons_zero, Option.some.injEq] at e
    subst e
    exact ⟨_, rfl, a⟩
  | _, _, i + 1, _, .cons _ r, e => by
    simp only [List.getElem?_cons_succ] at e
    obtain ⟨d, h1, h2⟩ := RvAll.getV (i := i) r e
    exact ⟨d, h1, h2⟩
theorem RvAll.append : ∀ {vs ws : List V} {ds es : List Dat}, RvAll W F H vs ds → RvAll W F H ws es → RvAll W F H (vs ++ ws) (ds ++ es)
  | _, _, _, _, .nil, s => s
  | _, _, _, _, .cons a r, s => .cons a (RvAll.append r s)
theorem RvAll.take : ∀ {vs : List V} {ds : List Dat} (n : Nat), RvAll W F H vs ds → RvAll W F H (vs.take n) (ds.take n)
  | _, _, 0, _ => .nil
  | _, _, _ + 1, .nil => .nil
  | _, _, n + 1, .cons a r => .cons a (RvAll.take n r)
theorem RvAll.drop : ∀ {vs : List V} {ds : List Dat} (n : Nat), RvAll W F H vs ds → RvAll W F H (vs.drop n) (ds.drop n)
  | _, _, 0, r => r
  | _, _, _ + 1, .nil => .nil
  | _, _, n + 1, .cons _ r => RvAll.drop n r
theorem RvAll.set : ∀ {vs : List V} {ds : List Dat} {v : V} {d : Dat} (n : Nat), RvAll W F H vs ds → Rv W F H v d → RvAll W F H (vs.set n v) (ds.set n d)
  | _, _, _, _, _, .nil, _ => .nil
  | _, _, _, _, 0, .cons _ r, q => .cons q r
  | _, _, _, _, n + 1, .cons a r, q => .cons a (RvAll.set n r q)
theorem RvAll.ints : ∀ {vs : List V} {ns : List Int}, RvAll W F H vs (ns.map Dat.int) → vs = ns.map V.int
  | _, [], .nil => rfl
  | _, n :: ns, .cons a r => by
    rw [RvAll.ints r]
    cases a
    rfl
theorem RvAll.strs : ∀ {vs : List V} {ns : List Str}, RvAll W F H vs (ns.map Dat.str) → vs = ns.map V.str
  | _, [], .nil => rfl
  | _, n :: ns, .cons a r => by
    rw [RvAll.strs r]
    cases a
    rfl
theorem RvAll.bls : ∀ {vs : List V} {ns : List Bool}, RvAll W F H vs (ns.map Dat.bl) → vs = ns.map V.bl
  | _, [], .nil => rfl
  | _, n :: ns, .cons a r => by
    rw [RvAll.bls r]
    cases a
    rfl
theorem rv_ints : ∀ ns : List Int, RvAll W F H (ns.map V.int) (ns.map Dat.int)
  | [] => .nil
  | n :: ns => .cons (.int n) (rv_ints ns)
theorem RvFs.get : ∀ {fs : List (Str × V)} {ks : List Str} {ds : List Dat} {i : Nat} {k : Str} {d : Dat}, RvFs W F H fs ks ds → ks[i]? = some k → ds[i]? = some d → ∃ v, fs.lookup k = some v ∧ Rv W F H v d
  | _, _, _, _, _, _, .nil, e, _ => by simp at e
  | _, _, _, 0, _, _, .cons e1 a r, e, e2 => by
    simp only [List.getElem?_cons_zero, Option.some.injEq] at e e2
    subst e
    subst e2
    exact ⟨_, e1, a⟩
  | _, _, _, i + 1, _, _, .cons e1 a r, e, e2 => by
    simp only [List.getElem?_cons_succ] at e e2
    exact RvFs.get (i := i) r e e2
end
/-! ### states -/
structure Okk (W : Wd) (F : Addr → Prop) (H : Hp) : Prop where
  tr : ∀ a, F a → H a ≠ none
  po : ∀ p c, W.po = some (p, c) → PoolAt H p c ∧ ¬ F p ∧ ¬ F c
/-- not the pool -/
def NPo (W : Wd) (a : Addr) : Prop := ∀ p c, W.po = some (p, c) → a ≠ p
structure Ext (W : Wd) (F : Addr → Prop) (H : Hp) (F' : Addr → Prop) (H' : Hp) : Prop where
  up : ∀ a, F a → F' a
  dn : ∀ a, F' a → F a ∨ H a = none
  kp : ∀ a o, H a = some o → NPo W a → H' a = some o
  ok : Okk W F' H'
theorem Okk.np {W : Wd} {F : Addr → Prop} {H : Hp} (k : Okk W F H) {a : Addr} (f : F a) : NPo W a := fun p c e z => by
  subst z
  exact (k.po _ _ e).2.1 f
theorem Ext.sub {W : Wd} {F F' : Addr → Prop} {H H' : Hp} (k : Okk W F H) (x : Ext W F H F' H') : Sub F H F' H' := fun a f => by
  refine ⟨x.up a f, ?_⟩
  cases e : H a with
  | none => exact absurd e (k.tr a f)
  | some o => exact x.kp a o e (k.np f)
theorem Ext.refl {W : Wd} {F : Addr → Prop} {H : Hp} (k : Okk W F H) : Ext W F H F H := ⟨fun _ f => f, fun _ f => .inl f, fun _ _ e _ => e, k⟩
theorem Ext.there {W : Wd} {F F' : Addr → Prop} {H H' : Hp} (k : Okk W F H) (x : Ext W F H F' H') {a : Addr} (h : H' a = none) : H a = none := by
  cases e : H a with
  | none => rfl
  | some o =>
    by_cases z : ∃ p c, W.po = some (p, c) ∧ a = p
    · obtain ⟨p, c, e1, rfl⟩ := z
      obtain ⟨⟨_, _, _, _, _, _, q, _⟩, _⟩ := x.ok.po _ _ e1
      rw [q] at h
      cases h
    · rw [x.kp a o e (fun p c e1 e2 => z ⟨p, c, e1, e2⟩)] at h
      cases h
theorem Ext.trans {W : Wd} {F F' F2 : Addr → Prop} {H H' H2 : Hp} (k : Okk W F H) (x : Ext W F H F' H') (y : Ext W F' H' F2 H2) : Ext W F H F2 H2 :=
  ⟨fun a f => y.up a (x.up a f), fun a f => by
    rcases y.dn a f with z | z
    · exact x.dn a z
    · exact .inr (x.there k z), fun a o e n => y.kp a o (x.kp a o e n) n, y.ok⟩
theorem Okk.pne {W : Wd} {F : Addr → Prop} {H : Hp} (k : Okk W F H) {a : Addr} (n : H a = none) : ∀ p c, W.po = some (p, c) → a ≠ p ∧ a ≠ c := fun p c e => by
  obtain ⟨⟨ns, i, m, s, b, z, h1, h2, _⟩, _⟩ := k.po p c e
  exact ⟨(ne_of_none h1 n).symm, (ne_of_none h2 n).symm⟩
/-- a new object, settled at once -/
theorem Ext.new {W : Wd} {F : Addr → Prop} {H : Hp} (k : Okk W F H) {a : Addr} {o : HO} (n : H a = none) : Ext W F H (fun b => F b ∨ b = a) (upd H a o) := by
  refine ⟨fun _ f => .inl f, fun b f => ?_, fun b u e _ => ?_, ⟨fun b f => ?_, fun p c e => ?_⟩⟩
  · rcases f with f | rfl
    · exact .inl f
    · exact .inr n
  · rw [upd_ne (ne_of_none e n)]
    exact e
  · by_cases h : b = a
    · subst h
      rw [upd_same]
      exact fun z => (by cases z)
    · rw [upd_ne h]
      rcases f with f | f
      · exact k.tr b f
      · exact absurd f h
  · obtain ⟨h1, h2, h3⟩ := k.po p c e
    have ne := k.pne n p c e
    refine ⟨h1.mut ne.1 ne.2, fun f => ?_, fun f => ?_⟩
    · rcases f with f | f
      · exact h2 f
      · exact ne.1 f.symm
    · rcases f with f | f
      · exact h3 f
      · exact ne.2 f.symm
/-- a new object that is not settled yet -/
theorem Ext.lay {W : Wd} {F : Addr → Prop} {H : Hp} (k : Okk W F H) {a : Addr} {o : HO} (n : H a = none) : Ext W F H F (upd H a o) := by
  refine ⟨fun _ f => f, fun b f => .inl f, fun b u e _ => ?_, ⟨fun b f => ?_, fun p c e => ?_⟩⟩
  · rw [upd_ne (ne_of_none e n)]
    exact e
  · have h : b ≠ a := fun z => k.tr b f (by rw [z]; exact n)
    rw [upd_ne h]
    exact k.tr b f
  · obtain ⟨h1, h2, h3⟩ := k.po p c e
    have ne := k.pne n p c e
    exact ⟨h1.mut ne.1 ne.2, h2, h3⟩
/-- what a slot of a frame holds: nothing that is asked, data, a list of the def's own that it still changes -/
inductive Sl where
  | u
  | d (x : Dat)
  | o (xs : List Dat)
def SlOk (W : Wd) (H0 : Hp) (F : Addr → Prop) (H : Hp) (ov : Option V) : Sl → Prop
  | .u => True
  | .d x => ∃ v, ov = some v ∧ Rv W F H v x
  | .o xs => ∃ a vs, ov = some (.ref a) ∧ ¬ F a ∧ H0 a = none ∧ H a = some (.lst vs) ∧ RvAll W F H vs xs ∧ ∀ p c, W.po = some (p, c) → a ≠ p ∧ a ≠ c
structure Mt (W : Wd) (H0 : Hp) (F : Addr → Prop) (H : Hp) (σ : L2.St) (env : List Sl) : Prop where
  ln : env.length = σ.length
  at_ : ∀ (i : Nat) (s : Sl), env[i]? = some s → ∃ ov, σ[i]? = some ov ∧ SlOk W H0 F H ov s
  own : ∀ (i j : Nat) (xs ys : List Dat) (a : Addr), env[i]? = some (.o xs) → env[j]? = some (.o ys) → σ[i]? = some (some (.ref a)) → σ[j]? = some (some (.ref a)) → i = j
theorem SlOk.ext {W : Wd} {H0 : Hp} {F F' : Addr → Prop} {H H' : Hp} {ov : Option V} (k : Okk W F H) (x : Ext W F H F' H') : ∀ {s : Sl}, SlOk W H0 F H ov s → SlOk W H0 F' H' ov s
  | .u, _ => trivial
  | .d _, ⟨v, e, r⟩ => ⟨v, e, r.sub (x.sub k)⟩
  | .o _, ⟨a, vs, e, nf, n0, h, r, np⟩ => by
    refine ⟨a, vs, e, fun f => ?_, n0, x.kp a _ h (fun p c e z => (np p c e).1 z), r.sub (x.sub k), np⟩
    rcases x.dn a f with z | z
    · exact nf z
    · rw [z] at h
      cases h
theorem Mt.ext {W : Wd} {H0 : Hp} {F F' : Addr → Prop} {H H' : Hp} {σ : L2.St} {env : List Sl} (k : Okk W F H) (x : Ext W F H F' H') (m : Mt W H0 F H σ env) : Mt W H0 F' H' σ env :=
  ⟨m.ln, fun i s e => by
    obtain ⟨ov, e1, r⟩ := m.at_ i s e
    exact ⟨ov, e1, r.ext k x⟩, m.own⟩
theorem Mt.setD {W : Wd} {H0 : Hp} {F : Addr → Prop} {H : Hp} {σ : L2.St} {env : List Sl} (m : Mt W H0 F H σ env) (i : Nat) {v : V} {d : Dat} (r : Rv W F H v d) : Mt W H0 F H (σ.set i (some v)) (env.set i (.d d)) := by
  refine ⟨by rw [List.length_set, List.length_set, m.ln], fun j s e => ?_, fun j k xs ys a e1 e2 e3 e4 => ?_⟩
  · by_cases h : j = i
    · subst h
      have hl : j < env.length := by
        have := (List.getElem?_eq_some_iff.mp e).1
        rwa [List.length_set] at this
      rw [List.getElem?_set_self hl] at e
      cases e
      exact ⟨some v, List.getElem?_set_self (by rw [← m.ln]; exact hl), v, rfl, r⟩
    · rw [List.getElem?_set_ne (Ne.symm h)] at e ⊢
      exact m.at_ j s e
  · have n1 : j ≠ i := fun z => by
      subst z
      have hl : j < env.length := by
        have := (List.getElem?_eq_some_iff.mp e1).1
        rwa [List.length_set] at this
      rw [List.getElem?_set_self hl] at e1
      cases e1
    have n2 : k ≠ i := fun z => by
      subst z
      have hl : k < env.length := by
        have := (List.getElem?_eq_some_iff.mp e2).1
        rwa [List.length_set] at this
      rw [List.getElem?_set_self hl] at e2
      cases e2
    rw [List.getElem?_set_ne (Ne.symm n1)] at e1 e3
    rw [List.getElem?_set_ne (Ne.symm n2)] at e2 e4
    exact m.own j k xs ys a e1 e2 e3 e4

/-! ### readings over data -/
abbrev AEx := List Sl → (Dat → Prop) → Prop
abbrev AFr := List Sl → (List Dat → Prop) → Prop
abbrev ATs := List Sl → (Bool → Prop) → Prop
abbrev Rel := Wd → (Addr → Prop) → Hp → V → Dat → Prop
/-- a value that is read, not kept: data, or a list that the def still changes -/
inductive Pk (W : Wd) (F : Addr → Prop) (H : Hp) : V → Dat → Prop
  | rv {v : V} {d : Dat} : Rv W F H v d → Pk W F H v d
  | own {a : Addr} {vs : List V} {ds : List Dat} : H a = some (.lst vs) → NPo W a → RvAll W F H vs ds → Pk W F H (.ref a) (.lst ds)
structure Pst (R : Rel) : Prop where
  run : ∀ {W : Wd} {F F' : Addr → Prop} {H H' : Hp} {v : V} {d : Dat}, Okk W F H → Ext W F H F' H' → R W F H v d → R W F' H' v d
theorem pst_rv : Pst Rv := ⟨fun k x r => r.sub (x.sub k)⟩
theorem pst_pk : Pst Pk := ⟨fun k x r => by
  cases r with
  | rv r => exact .rv (r.sub (x.sub k))
  | own h n r => exact .own (x.kp _ _ h n) n (r.sub (x.sub k))⟩
theorem Pk.lst {W : Wd} {F : Addr → Prop} {H : Hp} {v : V} {ds : List Dat} (k : Okk W F H) (h : Pk W F H v (.lst ds)) : ∃ a vs, v = .ref a ∧ H a = some (.lst vs) ∧ NPo W a ∧ RvAll W F H vs ds := by
  cases h with
  | rv r =>
    cases r with
    | lst f h r => exact ⟨_, _, rfl, h, k.np f, r⟩
  | own h n r => exact ⟨_, _, rfl, h, n, r⟩
structure AEg (R : Rel) (W : Wd) (H0 : Hp) (te : TE) (ae : AEx) : Prop where
  run : ∀ (σ : L2.St) (env : List Sl) (F : Addr → Prop) (H : Hp) (Q : VK) (P : Dat → Prop), Okk W F H → Mt W H0 F H σ env → ae env P → (∀ d F' H' v, P d → Ext W F H F' H' → R W F' H' v d → Q v H') → te σ H Q
abbrev AExp : Wd → Hp → TE → AEx → Prop := AEg Rv
/-- a list that is made anew -/
structure AFrs (W : Wd) (H0 : Hp) (te : TE) (ae : AFr) : Prop where
  run : ∀ (σ : L2.St) (env : List Sl) (F : Addr → Prop) (H : Hp) (Q : VK) (P : List Dat → Prop), Okk W F H → Mt W H0 F H σ env → ae env P →
    (∀ ds F' H' a vs, P ds → Ext W F H F' H' → H a = none → ¬ F' a → H' a = some (.lst vs) → RvAll W F' H' vs ds → Q (.ref a) H') → te σ H Q
structure ATst (W : Wd) (H0 : Hp) (tt : TT) (at_ : ATs) : Prop where
  run : ∀ (σ : L2.St) (env : List Sl) (F : Addr → Prop) (H : Hp) (Q : Bool → Hp → Prop) (P : Bool → Prop), Okk W F H → Mt W H0 F H σ env → at_ env P → (∀ b F' H', P b → Ext W F H F' H' → Q b H') → tt σ H Q
/-- arguments, n of them -/
structure AArg (W : Wd) (H0 : Hp) (n : Nat) (ta : TA) (aa : AFr) : Prop where
  run : ∀ (σ : L2.St) (env : List Sl) (F : Addr → Prop) (H : Hp) (Q : List V → Hp → Prop) (P : List Dat → Prop), Okk W F H → Mt W H0 F H σ env → aa env P →
    (∀ ds F' H' vs, P ds → Ext W F H F' H' → RvAll W F' H' vs ds → ds.length = n → Q vs H') → ta σ H Q
/-! ### names, constants -/
def dAt : List Sl → Nat → Sl
  | [], _ => .u
  | s :: _, 0 => s
  | _ :: r, i + 1 => dAt r i
theorem dAt_get : ∀ {env : List Sl} {i : Nat} {s : Sl}, dAt env i = s → s ≠ .u → env[i]? = some s
  | [], _, _, e, n => absurd e.symm n
  | s :: _, 0, _, e, _ => congrArg some e
  | _ :: r, i + 1, s, e, n => by
    rw [List.getElem?_cons_succ]
    exact dAt_get (env := r) e n
def dQ : Sl → (Dat → Prop) → Prop
  | .d x, P => P x
  | _, _ => False
def dQ2 : Sl → (Dat → Prop) → Prop
  | .d x, P => P x
  | .o xs, P => P (.lst xs)
  | _, _ => False
def aVar (i : Nat) : AEx := fun env P => dQ (dAt env i) P
def aPeek (i : Nat) : AEx := fun env P => dQ2 (dAt env i) P
def aC (d : Dat) : AEx := fun _ P => P d
section
variable {W : Wd} {H0 : Hp} {te ta tb : TE} {ae ea eb : AEx}
theorem a_var {i : Nat} : AExp W H0 (tVar i) (aVar i) := ⟨fun σ env F H Q P ok m h k => by
  unfold aVar at h
  cases e : dAt env i with
  | d x =>
    rw [e] at h
    obtain ⟨_, e1, v, rfl, r⟩ := m.at_ i _ (dAt_get e (fun z => by cases z))
    exact ⟨v, e1, k x F H v h (.refl ok) r⟩
  | u =>
    rw [e] at h
    exact h.elim
  | o xs =>
    rw [e] at h
    exact h.elim⟩
theorem a_peek {i : Nat} : AEg Pk W H0 (tVar i) (aPeek i) := ⟨fun σ env F H Q P ok m h k => by
  unfold aPeek at h
  cases e : dAt env i with
  | d x =>
    rw [e] at h
    obtain ⟨_, e1, v, rfl, r⟩ := m.at_ i _ (dAt_get e (fun z => by cases z))
    exact ⟨v, e1, k x F H v h (.refl ok) (.rv r)⟩
  | u =>
    rw [e] at h
    exact h.elim
  | o xs =>
    rw [e] at h
    obtain ⟨_, e1, a, vs, rfl, nf, n0, ha, r, np⟩ := m.at_ i _ (dAt_get e (fun z => by cases z))
    exact ⟨_, e1, k _ F H _ h (.refl ok) (.own ha (fun p c e => (np p c e).1) r)⟩⟩
theorem a_pk (h : AExp W H0 te ae) : AEg Pk W H0 te ae := ⟨fun σ env F H Q P ok m q k => h.run σ env F H Q P ok m q fun d F' H' v p x r => k d F' H' v p x (.rv r)⟩
theorem a_int {i : Int} : AExp W H0 (tC (.int i)) (aC (.int i)) := ⟨fun _ _ F H _ _ ok _ h k => k _ F H _ h (.refl ok) (.int i)⟩
theorem a_bl {b : Bool} : AExp W H0 (tC (.bl b)) (aC (.bl b)) := ⟨fun _ _ F H _ _ ok _ h k => k _ F H _ h (.refl ok) (.bl b)⟩
theorem a_str {x : Str} : AExp W H0 (tC (.str x)) (aC (.str x)) := ⟨fun _ _ F H _ _ ok _ h k => k _ F H _ h (.refl ok) (.str x)⟩
theorem a_non : AExp W H0 (tC .non) (aC .non) := ⟨fun _ _ F H _ _ ok _ h k => k _ F H _ h (.refl ok) .non⟩
/-- a new list, settled at once -/
def aFz (ae : AFr) : AEx := fun env P => ae env fun ds => P (.lst ds)
theorem Ext.fz {F F' : Addr → Prop} {H H' : Hp} {a : Addr} {o : HO} (ok : Okk W F H) (x : Ext W F H F' H') (n : H a = none) (h : H' a = some o) : Ext W F H (fun b => F' b ∨ b = a) H' := by
  have tr : ∀ b, (F' b ∨ b = a) → H' b ≠ none := fun b f => by
    rcases f with f | rfl
    · exact x.ok.tr b f
    · rw [h]
      exact fun z => by cases z
  have po : ∀ p c, W.po = some (p, c) → PoolAt H' p c ∧ ¬ (F' p ∨ p = a) ∧ ¬ (F' c ∨ c = a) := fun p c e => by
    obtain ⟨h1, h2, h3⟩ := x.ok.po p c e
    have ne := ok.pne n p c e
    refine ⟨h1, fun f => ?_, fun f => ?_⟩
    · rcases f with f | f
      · exact h2 f
      · exact ne.1 f.symm
    · rcases f with f | f
      · exact h3 f
      · exact ne.2 f.symm
  refine ⟨fun b f => .inl (x.up b f), fun b f => ?_, x.kp, ⟨tr, po⟩⟩
  rcases f with f | rfl
  · exact x.dn b f
  · exact .inr n
theorem sub_fz {F' : Addr → Prop} {H' : Hp} (a : Addr) : Sub F' H' (fun b => F' b ∨ b = a) H' := fun _ f => ⟨.inl f, rfl⟩
theorem a_fz {af : AFr} (h : AFrs W H0 te af) : AExp W H0 te (aFz af) := ⟨fun σ env F H Q P ok m q k => h.run σ env F H Q (fun ds => P (.lst ds)) ok m q fun ds F' H' a vs p x n nf ha r =>
  k (.lst ds) (fun b => F' b ∨ b = a) H' (.ref a) p (x.fz ok n ha) (.lst (.inr rfl) ha (r.sub (sub_fz a)))⟩
/-! ### two values -/
def a2 (f : Dat → Dat → (Dat → Prop) → Prop) (ea eb : AEx) : AEx := fun env P => ea env fun x => eb env fun y => f x y P
/-- an operation on values reads as f on data -/
def ROk (W : Wd) (S1 S2 S3 : Rel) (r : L2.R2) (f : Dat → Dat → (Dat → Prop) → Prop) : Prop :=
  ∀ (F : Addr → Prop) (H : Hp) (x y : V) (d e : Dat) (Q : VK) (P : Dat → Prop), Okk W F H → S1 W F H x d → S2 W F H y e → f d e P → (∀ z F' H' v, P z → Ext W F H F' H' → S3 W F' H' v z → Q v H') → r x y H Q
theorem a_op {S1 S2 S3 : Rel} {r : L2.R2} {f : Dat → Dat → (Dat → Prop) → Prop} (pr : Pst S1) (hr : ROk W S1 S2 S3 r f) (ha : AEg S1 W H0 ta ea) (hb : AEg S2 W H0 tb eb) : AEg S3 W H0 (tOp r ta tb) (a2 f ea eb) :=
  ⟨fun σ env F H Q P ok m q k => ha.run σ env F H _ _ ok m q fun d F1 H1 v p1 x1 r1 => hb.run σ env F1 H1 _ _ x1.ok (m.ext ok x1) p1 fun e F2 H2 u p2 x2 r2 =>
    hr F2 H2 v u d e Q P x2.ok (pr.run x1.ok x2 r1) r2 p2 fun z F3 H3 w p3 x3 r3 => k z F3 H3 w p3 ((x1.trans ok x2).trans ok x3) r3⟩
def kI (C : Int → Int → Prop) (g : Int → Int → Dat) : Dat → Dat → (Dat → Prop) → Prop
  | .int i, .int j, P => C i j ∧ P (g i j)
  | _, _, _ => False
def kI0 (g : Int → Int → Dat) : Dat → Dat → (Dat → Prop) → Prop
  | .int i, .int j, P => P (g i j)
  | _, _, _ => False
theorem rok_I {C : Int → Int → Prop} {g : Int → Int → Int} : ROk W Rv Rv Rv (rI C fun i j => .int (g i j)) (kI C fun i j => .int (g i j)) := fun F H x y d e Q P ok r1 r2 q k => by
  cases r1 <;> cases r2 <;> first | exact q.elim | exact ⟨_, _, rfl, rfl, q.1, k _ F H _ q.2 (.refl ok) (.int _)⟩
theorem rok_I0 {g : Int → Int → Int} : ROk W Rv Rv Rv (rI0 fun i j => .int (g i j)) (kI0 fun i j => .int (g i j)) := fun F H x y d e Q P ok r1 r2 q k => by
  cases r1 <;> cases r2 <;> first | exact q.elim | exact ⟨_, _, rfl, rfl, k _ F H _ q (.refl ok) (.int _)⟩
theorem rok_B0 {g : Int → Int → Bool} : ROk W Rv Rv Rv (rI0 fun i j => .bl (g i j)) (kI0 fun i j => .bl (g i j)) := fun F H x y d e Q P ok r1 r2 q k => by
  cases r1 <;> cases r2 <;> first | exact q.elim | exact ⟨_, _, rfl, rfl, k _ F H _ q (.refl ok) (.bl _)⟩
/-- == of two ints, texts, bools or None -/
def kEq (n : Bool) : Dat → Dat → (Dat → Prop) → Prop
  | .int i, .int j, P => P (.bl (if n then !decide (i = j) else decide (i = j)))
  | .str i, .str j, P => P (.bl (if n then !decide (i = j) else decide (i = j)))
  | .bl i, .bl j, P => P (.bl (if n then !decide (i = j) else decide (i = j)))
  | .non, .non, P => P (.bl (!n))
  | .non, .int _, P => P (.bl n)
  | .non, .bl _, P => P (.bl n)
  | .non, .str _, P => P (.bl n)
  | .int _, .non, P => P (.bl n)
  | .bl _, .non, P => P (.bl n)
  | .str _, .non, P => P (.bl n)
  | .int _, .str _, P => P (.bl n)
  | .str _, .int _, P => P (.bl n)
  | .bl _, .str _, P => P (.bl n)
  | .str _, .bl _, P => P (.bl n)
  | _, _, _ => False
theorem dec_i {i j : Int} : decide (V.int i = V.int j) = decide (i = j) := by
  by_cases h : i = j
  · subst h; simp
  · rw [decide_eq_false h, decide_eq_false (fun z => h (V.int.inj z))]
theorem dec_s {i j : Str} : decide (V.str i = V.str j) = decide (i = j) := by
  by_cases h : i = j
  · subst h; simp
  · rw [decide_eq_false h, decide_eq_false (fun z => h (V.str.inj z))]
theorem dec_b {i j : Bool} : decide (V.bl i = V.bl j) = decide (i = j) := by
  cases i <;> cases j <;> rfl
theorem rok_eq : ROk W Rv Rv Rv rEq (kEq false) := fun F H x y d e Q P ok r1 r2 q k => by
  cases r1 <;> cases r2 <;> first
    | exact q.elim
    | exact ⟨rfl, by rw [dec_i]; exact k _ F H _ q (.refl ok) (.bl _)⟩
    | exact ⟨rfl, by rw [dec_s]; exact k _ F H _ q (.refl ok) (.bl _)⟩
    | exact ⟨rfl, by rw [dec_b]; exact k _ F H _ q (.refl ok) (.bl _)⟩
    | exact ⟨rfl, k _ F H _ q (.refl ok) (.bl _)⟩
theorem rok_ne : ROk W Rv Rv Rv rNe (kEq true) := fun F H x y d e Q P ok r1 r2 q k => by
  cases r1 <;> cases r2 <;> first
    | exact q.elim
    | exact ⟨rfl, by rw [dec_i]; exact k _ F H _ q (.refl ok) (.bl _)⟩
    | exact ⟨rfl, by rw [dec_s]; exact k _ F H _ q (.refl ok) (.bl _)⟩
    | exact ⟨rfl, by rw [dec_b]; exact k _ F H _ q (.refl ok) (.bl _)⟩
    | exact ⟨rfl, k _ F H _ q (.refl ok) (.bl _)⟩
/-- x[i] -/
def oQ {α : Type} : Option α → (α → Prop) → Prop
  | some x, P => P x
  | none, _ => False
def kIx : Dat → Dat → (Dat → Prop) → Prop
  | .lst xs, .int i, P => oQ (atI xs i) P
  | .tup xs, .int i, P => oQ (atI xs i) P
  | _, _, _ => False
theorem RvAll.atI {F : Addr → Prop} {H : Hp} {vs : List V} {ds : List Dat} {i : Int} {d : Dat} (r : RvAll W F H vs ds) (e : L2.atI ds i = some d) : ∃ v, L2.atI vs i = some v ∧ Rv W F H v d := by
  unfold L2.atI at e ⊢
  rw [r.length]
  cases h : ixN ds.length i with
  | none =>
    rw [h] at e
    cases e
  | some j =>
    rw [h] at e
    exact r.get e
theorem rok_ixl : ROk W Pk Rv Rv (rIxL W.K) (fun x y P => match x with | .lst _ => kIx x y P | _ => False) := fun F H x y d e Q P ok r1 r2 q k => by
  cases d with
  | lst xs =>
    obtain ⟨a, vs, rfl, ha, np, r⟩ := r1.lst ok
    cases r2 with
    | int i =>
      have q : oQ (atI xs i) P := q
      cases h : atI xs i with
      | none =>
        rw [h] at q
        exact q.elim
      | some z =>
        rw [h] at q
        obtain ⟨v, e1, rv⟩ := r.atI h
        exact ⟨a, vs, i, v, rfl, rfl, SqL.of ha, e1, k z F H v q (.refl ok) rv⟩
    | _ => exact q.elim
  | _ => exact q.elim
theorem rok_ixt : ROk W Pk Rv Rv (rIxT W.K) (fun x y P => match x with | .tup _ => kIx x y P | _ => False) := fun F H x y d e Q P ok r1 r2 q k => by
  cases d with
  | tup xs =>
    cases r1 with
    | rv r1 =>
      cases r1 with
      | tup ha r =>
        cases r2 with
        | int i =>
          have q : oQ (atI xs i) P := q
          cases h : atI xs i with
          | none =>
            rw [h] at q
            exact q.elim
          | some z =>
            rw [h] at q
            obtain ⟨v, e1, rv⟩ := r.atI h
            exact ⟨_, _, i, v, rfl, rfl, ha.sq, e1, k z F H v q (.refl ok) rv⟩
        | _ => exact q.elim
  | _ => exact q.elim
theorem rok_ix : ROk W Pk Rv Rv (rIx W.K) kIx := fun F H x y d e Q P ok r1 r2 q k => by
  cases d with
  | lst xs => exact .inl (rok_ixl F H x y _ e Q P ok r1 r2 q k)
  | tup xs => exact .inr (.inl (rok_ixt F H x y _ e Q P ok r1 r2 q k))
  | _ => exact q.elim
end

/-! ### more expressions over data -/
section
variable {W : Wd} {H0 : Hp} {te ta tb tc : TE} {ae ea eb ec : AEx} {t u : TT} {at_ au : ATs}
/-! arguments -/
def aNil : AFr := fun _ P => P []
def aCons (ea : AEx) (er : AFr) : AFr := fun env P => ea env fun x => er env fun xs => P (x :: xs)
theorem a_nil : AArg W H0 0 tNil aNil := ⟨fun _ _ F H _ _ ok _ h k => k [] F H [] h (.refl ok) .nil rfl⟩
theorem a_cons {n : Nat} {tr : TA} {er : AFr} (ha : AExp W H0 ta ea) (hr : AArg W H0 n tr er) : AArg W H0 (n + 1) (tCons ta tr) (aCons ea er) :=
  ⟨fun σ env F H Q P ok m q k => ha.run σ env F H _ _ ok m q fun d F1 H1 v p1 x1 r1 => hr.run σ env F1 H1 _ _ x1.ok (m.ext ok x1) p1 fun ds F2 H2 vs p2 x2 r2 l2 =>
    k (d :: ds) F2 H2 (v :: vs) p2 (x1.trans ok x2) (.cons (r1.sub (x2.sub x1.ok)) r2) (congrArg (· + 1) l2)⟩
/-! displays -/
def aTup (aa : AFr) : AEx := fun env P => aa env fun ds => P (.tup ds)
theorem a_tup {n : Nat} {tr : TA} {aa : AFr} (h : AArg W H0 n tr aa) (hn : n ≤ 100000 := by decide) : AExp W H0 (tTupF tr) (aTup aa) :=
  ⟨fun σ env F H Q P ok m q k => h.run σ env F H _ _ ok m q fun ds F1 H1 vs p1 x1 r1 l1 => ⟨Nat.le_of_lt (len_size (by rw [r1.length]; omega)), fun a o n tp => by
    have x2 : Ext W F1 H1 _ _ := Ext.new (o := o) x1.ok n
    exact k (.tup ds) _ _ _ p1 (x1.trans ok x2) (.tup ⟨.inr rfl, o, upd_same, tp⟩ (r1.sub (x2.sub x1.ok)))⟩⟩
theorem a_lst {n : Nat} {tr : TA} {aa : AFr} (h : AArg W H0 n tr aa) (hn : n ≤ 100000 := by decide) : AFrs W H0 (tLst tr) aa :=
  ⟨fun σ env F H Q P ok m q k => h.run σ env F H _ _ ok m q fun ds F1 H1 vs p1 x1 r1 l1 => ⟨Nat.le_of_lt (len_size (by rw [r1.length]; omega)), fun a n => by
    have x2 : Ext W F1 H1 _ _ := Ext.lay (o := .lst vs) x1.ok n
    exact k ds _ _ a vs p1 (x1.trans ok x2) (x1.there ok n) (fun f => x1.ok.tr a f n) upd_same (r1.sub (x2.sub x1.ok))⟩⟩
/-! tests -/
def aTest (ea : AEx) : ATs := fun env P => ea env fun x => match x with | .bl b => P b | _ => False
theorem a_test (h : AExp W H0 ta ea) : ATst W H0 (tTest ta) (aTest ea) := ⟨fun σ env F H Q P ok m q k => h.run σ env F H _ _ ok m q fun d F1 H1 v p1 x1 r1 => by
  cases r1 <;> first | exact p1.elim | exact ⟨_, rfl, k _ F1 H1 p1 x1⟩⟩
theorem a_tb (h : AExp W H0 ta ea) : ATst W H0 (tB ta) (aTest ea) := ⟨fun σ env F H Q P ok m q k => h.run σ env F H _ _ ok m q fun d F1 H1 v p1 x1 r1 => by
  cases r1 <;> first | exact p1.elim | exact ⟨_, rfl, k _ F1 H1 p1 x1⟩⟩
def aNot (a : ATs) : ATs := fun env P => a env fun b => P (!b)
theorem a_not (h : ATst W H0 t at_) : ATst W H0 (tNot t) (aNot at_) := ⟨fun σ env F H Q P ok m q k => h.run σ env F H _ _ ok m q fun b F1 H1 p1 x1 => k _ F1 H1 p1 x1⟩
/-- two ways by a bool: kept together, so that it can be told first -/
def two (b : Bool) (p q : Prop) : Prop := match b with
  | true => p
  | false => q
def aAnd (a c : ATs) : ATs := fun env P => a env fun b => two b (c env P) (P false)
def aOr (a c : ATs) : ATs := fun env P => a env fun b => two b (P true) (c env P)
theorem a_and (h : ATst W H0 t at_) (h2 : ATst W H0 u au) : ATst W H0 (tAnd t u) (aAnd at_ au) := ⟨fun σ env F H Q P ok m q k => h.run σ env F H _ _ ok m q fun b F1 H1 p1 x1 => by
  cases b with
  | true =>
    rw [if_pos rfl]
    exact h2.run σ env F1 H1 _ _ x1.ok (m.ext ok x1) p1 fun b F2 H2 p2 x2 => k b F2 H2 p2 (x1.trans ok x2)
  | false =>
    rw [if_neg Bool.false_ne_true]
    exact k false F1 H1 p1 x1⟩
theorem a_or (h : ATst W H0 t at_) (h2 : ATst W H0 u au) : ATst W H0 (tOr t u) (aOr at_ au) := ⟨fun σ env F H Q P ok m q k => h.run σ env F H _ _ ok m q fun b F1 H1 p1 x1 => by
  cases b with
  | true =>
    rw [if_pos rfl]
    exact k true F1 H1 p1 x1
  | false =>
    rw [if_neg Bool.false_ne_true]
    exact h2.run σ env F1 H1 _ _ x1.ok (m.ext ok x1) p1 fun b F2 H2 p2 x2 => k b F2 H2 p2 (x1.trans ok x2)⟩
/-! values of bools -/
def bQ : Dat → (Bool → Prop) → Prop
  | .bl b, P => P b
  | _, _ => False
def aAndV (ea eb : AEx) : AEx := fun env P => ea env fun x => bQ x fun b => two b (eb env P) (P (.bl false))
def aOrV (ea eb : AEx) : AEx := fun env P => ea env fun x => bQ x fun b => two b (P (.bl true)) (eb env P)
def aNotV (ea : AEx) : AEx := fun env P => ea env fun x => bQ x fun b => P (.bl (!b))
theorem a_andV (ha : AExp W H0 ta ea) (hb : AExp W H0 tb eb) : AExp W H0 (tAndV ta tb) (aAndV ea eb) := ⟨fun σ env F H Q P ok m q k => ha.run σ env F H _ _ ok m q fun d F1 H1 v p1 x1 r1 => by
  cases r1 with
  | bl b =>
    refine ⟨b, rfl, ?_⟩
    cases b with
    | true =>
      rw [if_pos rfl]
      exact hb.run σ env F1 H1 _ _ x1.ok (m.ext ok x1) p1 fun e F2 H2 w p2 x2 r2 => k e F2 H2 w p2 (x1.trans ok x2) r2
    | false =>
      rw [if_neg Bool.false_ne_true]
      exact k _ F1 H1 _ p1 x1 (.bl false)
  | _ => exact p1.elim⟩
theorem a_orV (ha : AExp W H0 ta ea) (hb : AExp W H0 tb eb) : AExp W H0 (tOrV ta tb) (aOrV ea eb) := ⟨fun σ env F H Q P ok m q k => ha.run σ env F H _ _ ok m q fun d F1 H1 v p1 x1 r1 => by
  cases r1 with
  | bl b =>
    refine ⟨b, rfl, ?_⟩
    cases b with
    | true =>
      rw [if_pos rfl]
      exact k _ F1 H1 _ p1 x1 (.bl true)
    | false =>
      rw [if_neg Bool.false_ne_true]
      exact hb.run σ env F1 H1 _ _ x1.ok (m.ext ok x1) p1 fun e F2 H2 w p2 x2 r2 => k e F2 H2 w p2 (x1.trans ok x2) r2
  | _ => exact p1.elim⟩
theorem a_notV (ha : AExp W H0 ta ea) : AExp W H0 (tNotV ta) (aNotV ea) := ⟨fun σ env F H Q P ok m q k => ha.run σ env F H _ _ ok m q fun d F1 H1 v p1 x1 r1 => by
  cases r1 with
  | bl b => exact ⟨b, rfl, k _ F1 H1 _ p1 x1 (.bl _)⟩
  | _ => exact p1.elim⟩
def aIf (c : ATs) (ea eb : AEx) : AEx := fun env P => c env fun b => two b (ea env P) (eb env P)
theorem a_if (h : ATst W H0 t at_) (ha : AExp W H0 ta ea) (hb : AExp W H0 tb eb) : AExp W H0 (tIf t ta tb) (aIf at_ ea eb) := ⟨fun σ env F H Q P ok m q k => h.run σ env F H _ _ ok m q fun b F1 H1 p1 x1 => by
  cases b with
  | true =>
    rw [if_pos rfl]
    exact ha.run σ env F1 H1 _ _ x1.ok (m.ext ok x1) p1 fun e F2 H2 w p2 x2 r2 => k e F2 H2 w p2 (x1.trans ok x2) r2
  | false =>
    rw [if_neg Bool.false_ne_true]
    exact hb.run σ env F1 H1 _ _ x1.ok (m.ext ok x1) p1 fun e F2 H2 w p2 x2 r2 => k e F2 H2 w p2 (x1.trans ok x2) r2⟩
/-- a < b < c -/
def aChain (f g : Dat → Dat → (Dat → Prop) → Prop) (ea eb ec : AEx) : AEx := fun env P => ea env fun x => eb env fun y => f x y fun z => bQ z fun b => two b (ec env fun w => g y w P) (P (.bl false))
theorem a_chain {r r' : L2.R2} {f g : Dat → Dat → (Dat → Prop) → Prop} (hr : ROk W Rv Rv Rv r f) (hr' : ROk W Rv Rv Rv r' g) (ha : AExp W H0 ta ea) (hb : AExp W H0 tb eb) (hc : AExp W H0 tc ec) : AExp W H0 (tChain r r' ta tb tc) (aChain f g ea eb ec) :=
  ⟨fun σ env F H Q P ok m q k => ha.run σ env F H _ _ ok m q fun d F1 H1 v p1 x1 r1 => hb.run σ env F1 H1 _ _ x1.ok (m.ext ok x1) p1 fun e F2 H2 w p2 x2 r2 => by
    have ok2 := x2.ok
    have x12 := x1.trans ok x2
    refine hr F2 H2 v w d e _ _ ok2 (r1.sub (x2.sub x1.ok)) r2 p2 fun z F3 H3 y p3 x3 r3 => ?_
    have x13 := x12.trans ok x3
    cases r3 with
    | bl b =>
      refine ⟨b, rfl, ?_⟩
      cases b with
      | true =>
        rw [if_pos rfl]
        exact hc.run σ env F3 H3 _ _ x3.ok (m.ext ok x13) p3 fun c F4 H4 y p4 x4 r4 => hr' F4 H4 w y e c _ _ x4.ok ((r2.sub (x3.sub ok2)).sub (x4.sub x3.ok)) r4 p4 fun z F5 H5 y p5 x5 r5 => k z F5 H5 y p5 ((x13.trans ok x4).trans ok x5) r5
      | false =>
        rw [if_neg Bool.false_ne_true]
        exact k _ F3 H3 _ p3 x13 (.bl false)
    | _ => exact p3.elim⟩
/-! one value -/
def a1 (f : Dat → (Dat → Prop) → Prop) (ea : AEx) : AEx := fun env P => ea env fun x => f x P
def kNeg : Dat → (Dat → Prop) → Prop
  | .int i, P => P (.int (-i))
  | _, _ => False
theorem a_neg (ha : AExp W H0 ta ea) : AExp W H0 (tUn (rU fun i => .int (-i)) ta) (a1 kNeg ea) := ⟨fun σ env F H Q P ok m q k => ha.run σ env F H _ _ ok m q fun d F1 H1 v p1 x1 r1 => by
  cases r1 with
  | int i => exact ⟨i, rfl, k _ F1 H1 _ p1 x1 (.int _)⟩
  | _ => exact p1.elim⟩
/-- the field i of an object of the class k -/
def kFld (c i : Nat) : Dat → (Dat → Prop) → Prop
  | .obj c' ds, P => c' = c ∧ oQ ds[i]? P
  | _, _ => False
theorem a_fld {c i : Nat} {f : Str} (cl : Cls W.K (W.ca c)) (na : NoAttr W.K (W.ca c) f) (hf : (clsN c)[i]? = some f) (ha : AExp W H0 ta ea) : AExp W H0 (tFld W.K ta f) (a1 (kFld c i) ea) := ⟨fun σ env F H Q P ok m q k => ha.run σ env F H _ _ ok m q fun d F1 H1 v p1 x1 r1 => by
  cases r1 with
  | @obj a dx c' fs ds fa hA rf no =>
    obtain ⟨rfl, p1⟩ := p1
    cases e : ds[i]? with
    | none =>
      rw [e] at p1
      exact p1.elim
    | some d =>
      rw [e] at p1
      obtain ⟨v, e1, rv⟩ := rf.get hf e
      exact ⟨a, _, dx, fs, v, rfl, hA, cl, na, e1, k d F1 H1 v p1 x1 rv⟩
  | _ => exact p1.elim⟩
/-! is None -/
def kIsN (n : Bool) : Dat → Dat → (Dat → Prop) → Prop := fun x y P => match y with
  | .non => (match x with
    | .non => P (.bl (!n))
    | _ => P (.bl n))
  | _ => False
theorem rok_isN : ROk W Rv Rv Rv (fun x y H Q => y = V.non ∧ Q (.bl (decide (x = V.non))) H) (kIsN false) := fun F H x y d e Q P ok r1 r2 q k => by
  cases r2 with
  | non => exact ⟨rfl, by cases r1 <;> exact k _ F H _ q (.refl ok) (.bl _)⟩
  | _ => exact q.elim
theorem rok_notN : ROk W Rv Rv Rv (fun x y H Q => y = V.non ∧ Q (.bl (!decide (x = V.non))) H) (kIsN true) := fun F H x y d e Q P ok r1 r2 q k => by
  cases r2 with
  | non => exact ⟨rfl, by cases r1 <;> exact k _ F H _ q (.refl ok) (.bl _)⟩
  | _ => exact q.elim
end

/-! ### promises over data -/
abbrev ASp := List Dat → (Dat → Prop) → Prop
abbrev ASpF := List Dat → (List Dat → Prop) → Prop
def toSp (K : PySem.W.Frag) (ca : Nat → Addr) (asp : ASp) : Sp := fun vs H Q _ => ∃ (po : Option (Addr × Addr)) (F : Addr → Prop) (ds : List Dat) (P : Dat → Prop), Okk ⟨K, ca, po⟩ F H ∧ RvAll ⟨K, ca, po⟩ F H vs ds ∧ asp ds P ∧
  ∀ d F' H' v, P d → Ext ⟨K, ca, po⟩ F H F' H' → Rv ⟨K, ca, po⟩ F' H' v d → Q v H'
/-- a promise of a list that is new, and not kept by anybody -/
def toSpF (K : PySem.W.Frag) (ca : Nat → Addr) (asp : ASpF) : Sp := fun vs H Q _ => ∃ (po : Option (Addr × Addr)) (F : Addr → Prop) (ds : List Dat) (P : List Dat → Prop), Okk ⟨K, ca, po⟩ F H ∧ RvAll ⟨K, ca, po⟩ F H vs ds ∧ asp ds P ∧
  ∀ ds F' H' a vs, P ds → Ext ⟨K, ca, po⟩ F H F' H' → H a = none → ¬ F' a → H' a = some (.lst vs) → RvAll ⟨K, ca, po⟩ F' H' vs ds → Q (.ref a) H'
def aCall (asp : ASp) (aa : AFr) : AEx := fun env P => aa env fun ds => asp ds P
def aCallF (asp : ASpF) (aa : AFr) : AFr := fun env P => aa env fun ds => asp ds P
/-- a method: the object ahead of the arguments -/
def aMeth (c : Nat) (asp : ASp) (ea : AEx) (aa : AFr) : AEx := fun env P => ea env fun x => (match x with
  | .obj c' _ => c' = c
  | _ => False) ∧ aa env fun ds => asp (x :: ds) P
section
variable {K : PySem.W.Frag} {ca : Nat → Addr} {po : Option (Addr × Addr)} {H0 : Hp} {te ta tb : TE} {ae ea eb : AEx}
theorem a_call {n : Nat} {E : XK} {t : TA} {aa : AFr} {asp : ASp} (h : AArg ⟨K, ca, po⟩ H0 n t aa) : AExp ⟨K, ca, po⟩ H0 (tCall (toSp K ca asp) [] E t) (aCall asp aa) :=
  ⟨fun σ env F H Q P ok m q k => h.run σ env F H _ _ ok m q fun ds F1 H1 vs p1 x1 r1 _ => by
    rw [List.append_nil]
    exact ⟨po, F1, ds, P, x1.ok, r1, p1, fun d F' H' v p x r => k d F' H' v p (x1.trans ok x) r⟩⟩
theorem a_callF {n : Nat} {E : XK} {t : TA} {aa : AFr} {asp : ASpF} (h : AArg ⟨K, ca, po⟩ H0 n t aa) : AFrs ⟨K, ca, po⟩ H0 (tCall (toSpF K ca asp) [] E t) (aCallF asp aa) :=
  ⟨fun σ env F H Q P ok m q k => h.run σ env F H _ _ ok m q fun ds F1 H1 vs p1 x1 r1 _ => by
    rw [List.append_nil]
    exact ⟨po, F1, ds, P, x1.ok, r1, p1, fun d F' H' a ws p x n nf ha r => k d F' H' a ws p (x1.trans ok x) (x1.there ok n) nf ha r⟩⟩
theorem a_meth {n c : Nat} {E : XK} {mt : Str} {t : TA} {aa : AFr} {asp : ASp} (nm : mt ∉ clsN c) (ha : AExp ⟨K, ca, po⟩ H0 ta ea) (h : AArg ⟨K, ca, po⟩ H0 n t aa) : AExp ⟨K, ca, po⟩ H0 (tMeth (ca c) mt (toSp K ca asp) [] E ta t) (aMeth c asp ea aa) :=
  ⟨fun σ env F H Q P ok m q k => ha.run σ env F H _ _ ok m q fun d F1 H1 v p1 x1 r1 => by
    cases r1 with
    | @obj a dx c' fs ds fa hA rf no =>
      obtain ⟨e, p1⟩ := p1
      have e : c' = c := e
      subst e
      refine ⟨a, dx, fs, rfl, hA, no mt nm, ?_⟩
      refine h.run σ env F1 H1 _ _ x1.ok (m.ext ok x1) p1 fun es F2 H2 vs p2 x2 r2 _ => ?_
      rw [List.append_nil]
      exact ⟨po, F2, _, P, x2.ok, .cons ((Rv.obj fa hA rf no).sub (x2.sub x1.ok)) r2, p2, fun d F' H' v p x r => k d F' H' v p ((x1.trans ok x2).trans ok x) r⟩
    | _ => exact p1.1.elim⟩
end
/-! ### what a for, a comprehension walks -/
structure ItOk (W : Wd) (J : It) (F : Addr → Prop) (H : Hp) (ds : List Dat) : Prop where
  it : ∀ (F2 : Addr → Prop) (H2 : Hp), Okk W F2 H2 → Sub F H F2 H2 → ∀ (i : Nat) (d : Dat), ds[i]? = some d → J.go i H2 ∧ ∀ x H3, J.yld i H2 x H3 → ∃ F3, Ext W F2 H2 F3 H3 ∧ Rv W F3 H3 x d
  done : ∀ (F2 : Addr → Prop) (H2 : Hp), Okk W F2 H2 → Sub F H F2 H2 → J.stop ds.length H2
structure AIter (W : Wd) (H0 : Hp) (wi : TI) (ai : AFr) : Prop where
  run : ∀ (σ : L2.St) (env : List Sl) (F : Addr → Prop) (H : Hp) (R : It → Hp → Prop) (P : List Dat → Prop), Okk W F H → Mt W H0 F H σ env → ai env P →
    (∀ ds F' H' J, P ds → Ext W F H F' H' → ItOk W J F' H' ds → R J H') → wi σ H R
def lQ : Dat → (List Dat → Prop) → Prop
  | .lst xs, P => P xs
  | _, _ => False
def tQ : Dat → (List Dat → Prop) → Prop
  | .tup xs, P => P xs
  | _, _ => False
/-- over a list (k = false) or a tuple (k = true) -/
def kQ (k : Bool) : Dat → (List Dat → Prop) → Prop := fun d P => match k with
  | true => tQ d P
  | false => lQ d P
def iSeq (q : Dat → (List Dat → Prop) → Prop) (ea : AEx) : AFr := fun env P => ea env fun x => q x P
def iRan (aa : AFr) : AFr := fun env P => aa env fun ds => match ds with
  | [.int j] => j < 1000000000000 ∧ -1000000000000 < j ∧ P ((List.range j.toNat).map fun (i : Nat) => Dat.int (0 + (i : Int)))
  | [.int i, .int j] => (j < 1000000000000 ∧ -1000000000000 < j ∧ i < 1000000000000 ∧ -1000000000000 < i) ∧ P ((List.range (j - i).toNat).map fun (n : Nat) => Dat.int (i + (n : Int)))
  | _ => False
section
variable {W : Wd} {H0 : Hp} {te ta tb : TE} {ae ea eb : AEx}
theorem it_list {F : Addr → Prop} {H : Hp} {a : Addr} {vs : List V} {ds : List Dat} (f : F a) (h : H a = some (.lst vs)) (r : RvAll W F H vs ds) : ItOk W (Itl W.K a) F H ds := by
  refine ⟨fun F2 H2 ok s i d e => ?_, fun F2 H2 ok s => ?_⟩
  · have h2 : H2 a = some (.lst vs) := (s a f).2.trans h
    obtain ⟨v, e1, rv⟩ := r.get e
    refine ⟨⟨vs, v, SqL.of h2, e1⟩, fun x H3 y => ?_⟩
    obtain ⟨rfl, y⟩ := y
    have e2 := y vs (SqL.of h2)
    rw [e1] at e2
    cases e2
    exact ⟨F2, .refl ok, rv.sub s⟩
  · exact ⟨vs, SqL.of ((s a f).2.trans h), by rw [r.length]; exact Nat.le_refl _⟩
theorem it_tup {F : Addr → Prop} {H : Hp} {a : Addr} {vs : List V} {ds : List Dat} (h : FzT W F H a vs) (r : RvAll W F H vs ds) : ItOk W (Itt W.K a) F H ds := by
  refine ⟨fun F2 H2 ok s i d e => ?_, fun F2 H2 ok s => ?_⟩
  · have h2 := (h.sub s).sq
    obtain ⟨v, e1, rv⟩ := r.get e
    refine ⟨⟨vs, v, h2, e1⟩, fun x H3 y => ?_⟩
    obtain ⟨rfl, y⟩ := y
    have e2 := y vs h2
    rw [e1] at e2
    cases e2
    exact ⟨F2, .refl ok, rv.sub s⟩
  · exact ⟨vs, (h.sub s).sq, by rw [r.length]; exact Nat.le_refl _⟩
theorem i_list (ha : AExp W H0 ta ea) : AIter W H0 (iList W.K ta) (iSeq lQ ea) := ⟨fun σ env F H R P ok m q k => ha.run σ env F H _ _ ok m q fun d F1 H1 v p1 x1 r1 => by
  cases r1 with
  | lst f h r => exact ⟨_, rfl, ⟨_, SqL.of h⟩, k _ F1 H1 _ p1 x1 (it_list f h r)⟩
  | _ => exact p1.elim⟩
theorem i_tup (ha : AExp W H0 ta ea) : AIter W H0 (iTup W.K ta) (iSeq tQ ea) := ⟨fun σ env F H R P ok m q k => ha.run σ env F H _ _ ok m q fun d F1 H1 v p1 x1 r1 => by
  cases r1 with
  | tup h r => exact ⟨_, rfl, ⟨_, h.sq⟩, k _ F1 H1 _ p1 x1 (it_tup h r)⟩
  | _ => exact p1.elim⟩
theorem it_ran {F : Addr → Prop} {H : Hp} (lo : Int) (n : Nat) : ItOk W (Itr lo n) F H ((List.range n).map fun (i : Nat) => Dat.int (lo + (i : Int))) := by
  refine ⟨fun F2 H2 ok s i d e => ?_, fun F2 H2 ok s => ?_⟩
  · rw [List.getElem?_map] at e
    cases h : (List.range n)[i]? with
    | none =>
      rw [h] at e
      cases e
    | some j =>
      rw [h] at e
      obtain ⟨hl, e1⟩ := List.getElem?_eq_some_iff.mp h
      rw [List.getElem_range] at e1
      subst e1
      rw [List.length_range] at hl
      cases e
      refine ⟨hl, fun x H3 y => ?_⟩
      obtain ⟨rfl, rfl⟩ := y
      exact ⟨F2, .refl ok, .int _⟩
  · rw [List.length_map, List.length_range]
    exact Nat.le_refl n
theorem i_ran1 {t : TA} {aa : AFr} (h : AArg W H0 1 t aa) : AIter W H0 (iRng1 t) (iRan aa) := ⟨fun σ env F H R P ok m q k => h.run σ env F H _ _ ok m q fun ds F1 H1 vs p1 x1 r1 l1 => by
  match ds, l1, p1, r1 with
  | [.int j], _, p1, .cons r .nil =>
    obtain ⟨p0, p2, p1⟩ := p1
    cases r
    exact ⟨j, rfl, by omega, by omega, k _ F1 H1 _ p1 x1 (it_ran 0 j.toNat)⟩⟩
end
/-! ### targets -/
abbrev ATg := Dat → List Sl → (List Sl → Prop) → Prop
/-- vs: the slots that it stores to -/
structure ATgt (W : Wd) (H0 : Hp) (vs : List Nat) (g : TG) (ag : ATg) : Prop where
  run : ∀ (v : V) (d : Dat) (σ : L2.St) (env : List Sl) (F : Addr → Prop) (H : Hp) (Q : L2.St → Hp → Prop) (P : List Sl → Prop), Okk W F H → Mt W H0 F H σ env → Rv W F H v d → ag d env P →
    (∀ env' σ', P env' → Mt W H0 F H σ' env' → wipe σ' vs = wipe σ vs → Q σ' H) → g v σ H Q
structure ATgs (W : Wd) (H0 : Hp) (vs : List Nat) (n : Nat) (g : TGs) (ag : List Dat → List Sl → (List Sl → Prop) → Prop) : Prop where
  run : ∀ (xs : List V) (ds : List Dat) (σ : L2.St) (env : List Sl) (F : Addr → Prop) (H : Hp) (Q : L2.St → Hp → Prop) (P : List Sl → Prop), Okk W F H → Mt W H0 F H σ env → RvAll W F H xs ds → ag ds env P →
    (∀ env' σ', P env' → Mt W H0 F H σ' env' → wipe σ' vs = wipe σ vs → Q σ' H) → g xs σ H Q
  ln : ∀ ds env P, ag ds env P → ds.length = n
def gA (i : Nat) : ATg := fun d env P => P (env.set i (.d d))
def gTu (ag : List Dat → List Sl → (List Sl → Prop) → Prop) : ATg := fun d env P => tQ d fun ds => ag ds env P
def gNilA : List Dat → List Sl → (List Sl → Prop) → Prop := fun ds env P => match ds with
  | [] => P env
  | _ :: _ => False
def gConsA (g : ATg) (ag : List Dat → List Sl → (List Sl → Prop) → Prop) : List Dat → List Sl → (List Sl → Prop) → Prop := fun ds env P => match ds with
  | [] => False
  | d :: ds => g d env fun env2 => ag ds env2 P
theorem wipe_set (σ : L2.St) (i : Nat) (x : Option V) : ∀ vs : List Nat, i ∈ vs → wipe (σ.set i x) vs = wipe σ vs
  | [], h => by cases h
  | v :: vs, h => by
    show (wipe (σ.set i x) vs).set v none = (wipe σ vs).set v none
    by_cases hv : i ∈ vs
    · rw [wipe_set σ i x vs hv]
    · have e : i = v := (List.mem_cons.mp h).resolve_right hv
      subst e
      have com : ∀ us : List Nat, i ∉ us → wipe (σ.set i x) us = (wipe σ us).set i x := fun us => by
        induction us with
        | nil => intro _; rfl
        | cons u us ih =>
          intro hu
          show (wipe (σ.set i x) us).set u none = ((wipe σ us).set u none).set i x
          rw [ih (fun z => hu (List.mem_cons_of_mem _ z)), List.set_comm _ _ (fun z => hu (by rw [z]; exact List.mem_cons_self))]
      rw [com vs hv, List.set_set]
theorem wipe_wipe (σ : L2.St) : ∀ vs : List Nat, wipe (wipe σ vs) vs = wipe σ vs
  | [] => rfl
  | v :: vs => by
    have e := wipe_set (wipe σ vs) v none (v :: vs) List.mem_cons_self
    show wipe ((wipe σ vs).set v none) (v :: vs) = (wipe σ vs).set v none
    rw [e]
    show (wipe (wipe σ vs) vs).set v none = _
    rw [wipe_wipe σ vs]
section
variable {W : Wd} {H0 : Hp} {vs : List Nat}
theorem g_name {i : Nat} (h : i ∈ vs := by decide) : ATgt W H0 vs (gName i) (gA i) := ⟨fun v d σ env F H Q P ok m r q k => k _ _ q (m.setD i r) (wipe_set σ i _ vs h)⟩
theorem g_tup {n : Nat} {t : TGs} {ag : List Dat → List Sl → (List Sl → Prop) → Prop} (h : ATgs W H0 vs n t ag) : ATgt W H0 vs (gTup W.K n t) (gTu ag) := ⟨fun v d σ env F H Q P ok m r q k => by
  cases r with
  | tup hA rr => exact ⟨_, _, rfl, hA.sq, rr.length.trans (h.ln _ _ _ q), h.run _ _ σ env F H Q P ok m rr q k⟩
  | _ => exact q.elim⟩
theorem g_nil : ATgs W H0 vs 0 gNil gNilA := ⟨fun xs ds σ env F H Q P ok m r q k => by
  cases r with
  | nil => exact ⟨rfl, k env σ q m rfl⟩
  | cons _ _ => exact q.elim, fun ds env P q => by
  cases ds with
  | nil => rfl
  | cons _ _ => exact q.elim⟩
theorem g_cons {n : Nat} {t : TG} {ag : ATg} {u : TGs} {au : List Dat → List Sl → (List Sl → Prop) → Prop} (h : ATgt W H0 vs t ag) (h2 : ATgs W H0 vs n u au) (tot : ∀ d env P, ag d env P → ∃ env2, P env2) : ATgs W H0 vs (n + 1) (gCons t u) (gConsA ag au) := ⟨fun xs ds σ env F H Q P ok m r q k => by
  cases r with
  | nil => exact q.elim
  | cons r rs => exact ⟨_, _, rfl, h.run _ _ σ env F H _ _ ok m r q fun env2 σ2 p2 m2 w2 => h2.run _ _ σ2 env2 F H Q P ok m2 rs p2 fun env3 σ3 p3 m3 w3 => k env3 σ3 p3 m3 (w3.trans w2)⟩, fun ds env P q => by
  cases ds with
  | nil => exact q.elim
  | cons d ds =>
    obtain ⟨env2, p⟩ := tot d env _ q
    exact congrArg (· + 1) (h2.ln ds env2 P p)⟩
theorem tot_name {i : Nat} : ∀ d env P, gA i d env P → ∃ env2, P env2 := fun _ _ _ q => ⟨_, q⟩
theorem tot_tup {ag : List Dat → List Sl → (List Sl → Prop) → Prop} (h : ∀ ds env P, ag ds env P → ∃ env2, P env2) : ∀ d env P, gTu ag d env P → ∃ env2, P env2 := fun d env P q => by
  cases d with
  | tup ds => exact h ds env P q
  | _ => exact q.elim
theorem tot_nil : ∀ ds env P, gNilA ds env P → ∃ env2, P env2 := fun ds env P q => by
  cases ds with
  | nil => exact ⟨_, q⟩
  | cons _ _ => exact q.elim
theorem tot_cons {g : ATg} {ag : List Dat → List Sl → (List Sl → Prop) → Prop} (h : ∀ d env P, g d env P → ∃ env2, P env2) (h2 : ∀ ds env P, ag ds env P → ∃ env2, P env2) : ∀ ds env P, gConsA g ag ds env P → ∃ env2, P env2 := fun ds env P q => by
  cases ds with
  | nil => exact q.elim
  | cons d ds =>
    obtain ⟨env2, p⟩ := h d env _ q
    exact h2 ds env2 P p
end
/-! ### a comprehension -/
def wipeA (env : List Sl) : List Nat → List Sl
  | [] => env
  | v :: vs => (wipeA env vs).set v .u
theorem Mt.wipe {W : Wd} {H0 : Hp} {F : Addr → Prop} {H : Hp} {σ : L2.St} {env : List Sl} (m : Mt W H0 F H σ env) : ∀ vs : List Nat, Mt W H0 F H (L2.wipe σ vs) (wipeA env vs)
  | [] => m
  | v :: vs => by
    have m2 := m.wipe vs
    show Mt W H0 F H ((L2.wipe σ vs).set v none) ((wipeA env vs).set v .u)
    generalize L2.wipe σ vs = σ2 at m2
    generalize wipeA env vs = env2 at m2
    refine ⟨by rw [List.length_set, List.length_set, m2.ln], fun j s e => ?_, fun j k xs ys a e1 e2 e3 e4 => ?_⟩
    · by_cases h : j = v
      · subst h
        have hl : j < env2.length := by
          have := (List.getElem?_eq_some_iff.mp e).1
          rwa [List.length_set] at this
        rw [List.getElem?_set_self hl] at e
        cases e
        exact ⟨none, List.getElem?_set_self (by rw [← m2.ln]; exact hl), trivial⟩
      · rw [List.getElem?_set_ne (Ne.symm h)] at e ⊢
        exact m2.at_ j s e
    · have n1 : ∀ {j : Nat} {xs : List Dat}, (env2.set v .u)[j]? = some (.o xs) → j ≠ v := fun {j xs} e z => by
        subst z
        have hl : j < env2.length := by
          have := (List.getElem?_eq_some_iff.mp e).1
          rwa [List.length_set] at this
        rw [List.getElem?_set_self hl] at e
        cases e
      have a1 := n1 e1
      have a2 := n1 e2
      rw [List.getElem?_set_ne (Ne.symm a1)] at e1 e3
      rw [List.getElem?_set_ne (Ne.symm a2)] at e2 e4
      exact m2.own j k xs ys a e1 e2 e3 e4
/-- the items that are made of ds, behind those of acc -/
def lcA (el : Dat → (Option Dat → Prop) → Prop) (P : List Dat → Prop) : List Dat → List Dat → Prop
  | [], acc => P acc
  | d :: ds, acc => el d fun o => match o with
    | some y => lcA el P ds (acc ++ [y])
    | none => lcA el P ds acc
def elA (ag : ATg) (at_ : ATs) (ea : AEx) (env : List Sl) : Dat → (Option Dat → Prop) → Prop := fun d P => ag d env fun env2 => at_ env2 fun b => two b (ea env2 fun y => P (some y)) (P none)
def aLc (ai : AFr) (ag : ATg) (at_ : ATs) (ea : AEx) (vs : List Nat) : AFr := fun env P => ai env fun ds => ds.length ≤ 100000 ∧ lcA (elA ag at_ ea (wipeA env vs)) P ds []
def aYes : ATs := fun _ P => P true
theorem a_yes {W : Wd} {H0 : Hp} : ATst W H0 tYes aYes := ⟨fun _ _ F H _ _ ok _ h k => k true F H h (.refl ok)⟩
theorem a_lc {W : Wd} {H0 : Hp} {wi : TI} {g : TG} {tt : TT} {te : TE} {vs : List Nat} {ai : AFr} {ag : ATg} {at_ : ATs} {ea : AEx} (hi : AIter W H0 wi ai) (hg : ATgt W H0 vs g ag) (ht : ATst W H0 tt at_) (he : AExp W H0 te ea) :
    AFrs W H0 (tLc wi g tt te vs) (aLc ai ag at_ ea vs) := ⟨fun σ env F H Q P ok m q k => hi.run σ env F H _ _ ok m q fun ds F1 H1 J p1 x1 itk => by
  intro D hD
  obtain ⟨sz, p1⟩ := p1
  have ok1 := x1.ok
  have m1 := m.ext ok x1
  have np : ∀ p c, W.po = some (p, c) → D ≠ p ∧ D ≠ c := ok1.pne hD
  refine ⟨fun i n H' => n + i = ds.length ∧ ∃ F' acc ys, Ext W F1 H1 F' H' ∧ ¬ F' D ∧ H' D = some (.lst acc) ∧ RvAll W F' H' acc ys ∧ ys.length ≤ i ∧ lcA (elA ag at_ ea (wipeA env vs)) P (ds.drop i) ys,
    ⟨ds.length, rfl, F1, [], [], Ext.lay ok1 hD, fun f => ok1.tr D f hD, upd_same, .nil, Nat.le_refl _, p1⟩, ?_⟩
  rintro i n H2 ⟨hn, F2, acc, ys, x2, nf, hA, r2, ly, p2⟩
  have ok2 := x2.ok
  by_cases hlt : i < ds.length
  · have hd : ds[i]? = some ds[i] := List.getElem?_eq_getElem hlt
    obtain ⟨go, yl⟩ := itk.it F2 H2 ok2 (x2.sub ok1) i _ hd
    rw [List.drop_eq_getElem_cons hlt] at p2
    refine .inr ⟨go, fun H' => ∃ F' acc ys, Ext W F1 H1 F' H' ∧ ¬ F' D ∧ H' D = some (.lst acc) ∧ RvAll W F' H' acc ys ∧ ys.length ≤ i + 1 ∧ lcA (elA ag at_ ea (wipeA env vs)) P (ds.drop (i + 1)) ys,
      fun H' ⟨F', acc, ys, rest⟩ => ⟨n - 1, by omega, by omega, F', acc, ys, rest⟩, fun x H3 y => ?_⟩
    obtain ⟨F3, x3, rx⟩ := yl x H3 y
    have x13 := x2.trans ok1 x3
    refine hg.run x _ _ _ F3 H3 _ _ x3.ok ((m1.ext ok1 x13).wipe vs) rx p2 fun env4 σ4 p4 m4 w4 => ?_
    refine ⟨w4.trans (wipe_wipe σ vs), ht.run σ4 env4 F3 H3 _ _ x3.ok m4 p4 fun b F5 H5 p5 x5 => ?_⟩
    have keep : ∀ {Fa Fb : Addr → Prop} {Ha Hb : Hp}, Ext W Fa Ha Fb Hb → ¬ Fa D → Ha D = some (.lst acc) → ¬ Fb D ∧ Hb D = some (.lst acc) := fun {Fa Fb Ha Hb} x nf h => by
      refine ⟨fun f => ?_, x.kp D _ h (fun p c e => (np p c e).1)⟩
      rcases x.dn D f with z | z
      · exact nf z
      · rw [z] at h
        cases h
    obtain ⟨nf3, h3⟩ := keep x3 nf hA
    obtain ⟨nf5, h5⟩ := keep x5 nf3 h3
    have x35 := x3.trans ok2 x5
    have x15 := x2.trans ok1 x35
    cases b with
    | true =>
      rw [if_pos rfl]
      refine he.run σ4 env4 F5 H5 _ _ x5.ok (m4.ext x3.ok x5) p5 fun e F6 H6 v p6 x6 r6 => ?_
      obtain ⟨nf6, h6⟩ := keep x6 nf5 h5
      have x16 := x15.trans ok1 x6
      have r26 := r2.sub ((x35.trans ok2 x6).sub ok2)
      have sb : Sub F6 H6 F6 (upd H6 D (.lst (acc ++ [v]))) := fun a f => ⟨f, upd_ne (fun z => nf6 (by rw [← z]; exact f))⟩
      refine ⟨acc, h6, len_size (by rw [r2.length]; omega), F6, _, ys ++ [e], ⟨x16.up, x16.dn, fun a o ha npa => ?_, ⟨fun a f => ?_, fun p c ep => ?_⟩⟩, nf6, upd_same, (r26.append (.cons r6 .nil)).sub sb, by rw [List.length_append]; exact Nat.succ_le_succ ly, p6⟩
      · rw [upd_ne (ne_of_none ha hD)]
        exact x16.kp a o ha npa
      · rw [(sb a f).2]
        exact x16.ok.tr a f
      · obtain ⟨h1, h2, h3⟩ := x16.ok.po p c ep
        exact ⟨h1.mut (np p c ep).1 (np p c ep).2, h2, h3⟩
    | false =>
      rw [if_neg Bool.false_ne_true]
      exact ⟨F5, acc, ys, x15, nf5, h5, r2.sub (x35.sub ok2), by omega, p5⟩
  · have e : i = ds.length := by omega
    subst e
    rw [List.drop_length] at p2
    exact .inl ⟨itk.done F2 H2 ok2 (x2.sub ok1), k ys F2 H2 D acc p2 (x1.trans ok x2) (x1.there ok hD) nf hA r2⟩⟩

/-! ### statements over data -/
structure AEnds where
  nx : List Sl → Prop
  rt : Dat → Prop
  bk : List Sl → Prop := fun _ => False
  ct : List Sl → Prop := fun _ => False
abbrev ASt := AEnds → List Sl → Prop
/-- the states of a def's body: F0, H0 its entry; what is settled in F1, H1 stays -/
structure Bse (W : Wd) (F0 : Addr → Prop) (H0 : Hp) (F1 : Addr → Prop) (H1 : Hp) (F : Addr → Prop) (H : Hp) : Prop where
  ex : Ext W F0 H0 F H
  sb : Sub F1 H1 F H
theorem Sub.trans {F F' F2 : Addr → Prop} {H H' H2 : Hp} (a : Sub F H F' H') (b : Sub F' H' F2 H2) : Sub F H F2 H2 := fun x f => ⟨(b x (a x f).1).1, (b x (a x f).1).2.trans (a x f).2⟩
theorem Sub.refl (F : Addr → Prop) (H : Hp) : Sub F H F H := fun _ f => ⟨f, rfl⟩
structure EndsOk (W : Wd) (F0 : Addr → Prop) (H0 : Hp) (F1 : Addr → Prop) (H1 : Hp) (De : Ends) (Da : AEnds) : Prop where
  nx : ∀ σ env F H, Bse W F0 H0 F1 H1 F H → Mt W H0 F H σ env → Da.nx env → De.nx σ H
  rt : ∀ v d F H, Bse W F0 H0 F1 H1 F H → Rv W F H v d → Da.rt d → De.rt v H
  bk : ∀ σ env F H, Bse W F0 H0 F1 H1 F H → Mt W H0 F H σ env → Da.bk env → De.bk σ H
  ct : ∀ σ env F H, Bse W F0 H0 F1 H1 F H → Mt W H0 F H σ env → Da.ct env → De.ct σ H
structure AStm (W : Wd) (ts : TS) (as : ASt) : Prop where
  run : ∀ (F0 : Addr → Prop) (H0 : Hp) (F1 : Addr → Prop) (H1 : Hp) (De : Ends) (Da : AEnds) (σ : L2.St) (env : List Sl) (F : Addr → Prop) (H : Hp), Okk W F0 H0 → Bse W F0 H0 F1 H1 F H → Mt W H0 F H σ env → EndsOk W F0 H0 F1 H1 De Da → as Da env → ts De σ H
theorem Bse.step {W : Wd} {F0 F1 F F' : Addr → Prop} {H0 H1 H H' : Hp} (ok0 : Okk W F0 H0) (b : Bse W F0 H0 F1 H1 F H) (x : Ext W F H F' H') : Bse W F0 H0 F1 H1 F' H' := ⟨b.ex.trans ok0 x, b.sb.trans (x.sub b.ex.ok)⟩
theorem EndsOk.mono {W : Wd} {F0 F1 F : Addr → Prop} {H0 H1 H : Hp} {De : Ends} {Da : AEnds} (s : Sub F1 H1 F H) (k : EndsOk W F0 H0 F1 H1 De Da) : EndsOk W F0 H0 F H De Da :=
  ⟨fun σ env F H b => k.nx σ env F H ⟨b.ex, s.trans b.sb⟩, fun v d F H b => k.rt v d F H ⟨b.ex, s.trans b.sb⟩, fun σ env F H b => k.bk σ env F H ⟨b.ex, s.trans b.sb⟩, fun σ env F H b => k.ct σ env F H ⟨b.ex, s.trans b.sb⟩⟩
def sNext : ASt := fun D env => D.nx env
def sSeq (a b : ASt) : ASt := fun D env => a { D with nx := b D } env
def sCut (a b : ASt) : ASt := fun D env => ∃ Mid : List Sl → Prop, a { D with nx := Mid } env ∧ ∀ env', Mid env' → b D env'
def sIf (c : ATs) (a b : ASt) : ASt := fun D env => c env fun t => two t (a D env) (b D env)
def sAsg (ea : AEx) (g : ATg) : ASt := fun D env => ea env fun d => g d env D.nx
def sSetO (i : Nat) (af : AFr) : ASt := fun D env => af env fun ds => D.nx (env.set i (.o ds))
def sRet (ea : AEx) : ASt := fun D env => ea env D.rt
def sRetN : ASt := fun D _ => D.rt .non
def sDrop (ea : AEx) : ASt := fun D env => ea env fun _ => D.nx env
def sPar (i j : Nat) (aa : AFr) : ASt := fun D env => aa env fun ds => match ds with
  | [x, y] => D.nx ((env.set i (.d x)).set j (.d y))
  | _ => False
def oQ2 : Sl → (List Dat → Prop) → Prop
  | .o xs, P => P xs
  | _, _ => False
/-- x.append(e), x a list of the def's own -/
def sApp (i : Nat) (ea : AEx) : ASt := fun D env => oQ2 (dAt env i) fun xs => xs.length < 100000 ∧ ea env fun d => D.nx (env.set i (.o (xs ++ [d])))
/-- no statement: from here on the list in slot i is only read -/
def sFz (i : Nat) (a : ASt) : ASt := fun D env => oQ2 (dAt env i) fun xs => a D (env.set i (.d (.lst xs)))
def sAug (i : Nat) (ea : AEx) (f : Dat → Dat → (Dat → Prop) → Prop) : ASt := fun D env => dQ (dAt env i) fun x => ea env fun y => f x y fun z => D.nx (env.set i (.d z))
def forA (g : ATg) (b : ASt) (D : AEnds) : List Dat → List Sl → Prop
  | [], env => D.nx env
  | d :: ds, env => g d env fun env2 => b { D with nx := forA g b D ds, ct := forA g b D ds, bk := D.nx } env2
def sFor (ai : AFr) (g : ATg) (b : ASt) : ASt := fun D env => ai env fun ds => forA g b D ds env
section
variable {W : Wd} {ts tu : TS} {as au : ASt}
theorem s_next : AStm W tNext sNext := ⟨fun F0 H0 F1 H1 De Da σ env F H ok b m k h => k.nx σ env F H b m h⟩
theorem s_seq (h1 : AStm W ts as) (h2 : AStm W tu au) : AStm W (tSeq ts tu) (sSeq as au) := ⟨fun F0 H0 F1 H1 De Da σ env F H ok b m k h =>
  h1.run F0 H0 F1 H1 { De with nx := tu De } { Da with nx := au Da } σ env F H ok b m ⟨fun σ env F H b m h => h2.run F0 H0 F1 H1 De Da σ env F H ok b m k h, k.rt, k.bk, k.ct⟩ h⟩
theorem s_cut (h1 : AStm W ts as) (h2 : AStm W tu au) : AStm W (C8.tCut ts tu) (sCut as au) := ⟨fun F0 H0 F1 H1 De Da σ env F H ok b m k ⟨Mid, h, q⟩ =>
  ⟨fun σ' H' => ∃ env' F', Bse W F0 H0 F1 H1 F' H' ∧ Mt W H0 F' H' σ' env' ∧ Mid env', h1.run F0 H0 F1 H1 _ { Da with nx := Mid } σ env F H ok b m ⟨fun σ env F H b m h => ⟨env, F, b, m, h⟩, k.rt, k.bk, k.ct⟩ h,
    fun σ' H' ⟨env', F', b', m', hm⟩ => h2.run F0 H0 F1 H1 De Da σ' env' F' H' ok b' m' k (q env' hm)⟩⟩
theorem s_if {t : TT} {c : ATs} (ht : ∀ H0, ATst W H0 t c) (h1 : AStm W ts as) (h2 : AStm W tu au) : AStm W (tIfS t ts tu) (sIf c as au) := ⟨fun F0 H0 F1 H1 De Da σ env F H ok b m k h =>
  (ht H0).run σ env F H _ _ b.ex.ok m h fun t F' H' p x => by
    have b' := b.step ok x
    have m' := m.ext b.ex.ok x
    cases t with
    | true =>
      rw [if_pos rfl]
      exact h1.run F0 H0 F1 H1 De Da σ env F' H' ok b' m' k p
    | false =>
      rw [if_neg Bool.false_ne_true]
      exact h2.run F0 H0 F1 H1 De Da σ env F' H' ok b' m' k p⟩
theorem s_asg {te : TE} {ea : AEx} {g : TG} {ag : ATg} {vs : List Nat} (he : ∀ H0, AExp W H0 te ea) (hg : ∀ H0, ATgt W H0 vs g ag) : AStm W (tAsg te g) (sAsg ea ag) := ⟨fun F0 H0 F1 H1 De Da σ env F H ok b m k h =>
  (he H0).run σ env F H _ _ b.ex.ok m h fun d F' H' v p x r => (hg H0).run v d σ env F' H' _ _ x.ok (m.ext b.ex.ok x) r p fun env' σ' p' m' _ => k.nx σ' env' F' H' (b.step ok x) m' p'⟩
theorem s_set {te : TE} {ea : AEx} {i : Nat} (he : ∀ H0, AExp W H0 te ea) : AStm W (tAsg te (gName i)) (sAsg ea (gA i)) := s_asg (vs := [i]) he fun _ => g_name List.mem_cons_self
theorem s_ret {te : TE} {ea : AEx} (he : ∀ H0, AExp W H0 te ea) : AStm W (tRet te) (sRet ea) := ⟨fun F0 H0 F1 H1 De Da σ env F H ok b m k h =>
  (he H0).run σ env F H _ _ b.ex.ok m h fun d F' H' v p x r => k.rt v d F' H' (b.step ok x) r p⟩
theorem s_retN : AStm W tRetN sRetN := ⟨fun F0 H0 F1 H1 De Da σ env F H ok b m k h => k.rt .non .non F H b .non h⟩
theorem s_drop {te : TE} {ea : AEx} (he : ∀ H0, AExp W H0 te ea) : AStm W (tDrop te) (sDrop ea) := ⟨fun F0 H0 F1 H1 De Da σ env F H ok b m k h =>
  (he H0).run σ env F H _ _ b.ex.ok m h fun d F' H' v p x r => k.nx σ env F' H' (b.step ok x) (m.ext b.ex.ok x) p⟩
theorem s_par {i j : Nat} {t : TA} {aa : AFr} (he : ∀ H0, AArg W H0 2 t aa) : AStm W (tPar i j t) (sPar i j aa) := ⟨fun F0 H0 F1 H1 De Da σ env F H ok b m k h =>
  (he H0).run σ env F H _ _ b.ex.ok m h fun ds F' H' vs p x r l => by
    match ds, l, p, r with
    | [d, e], _, p, .cons r1 (.cons r2 .nil) =>
      exact ⟨_, _, rfl, k.nx _ _ F' H' (b.step ok x) (((m.ext b.ex.ok x).setD i r1).setD j r2) p⟩⟩
/-- a new list for a slot -/
theorem Mt.setO {H0 : Hp} {F : Addr → Prop} {H : Hp} {σ : L2.St} {env : List Sl} (m : Mt W H0 F H σ env) (i : Nat) {a : Addr} {vs : List V} {ds : List Dat} (nf : ¬ F a) (n0 : H0 a = none) (hA : H a = some (.lst vs)) (r : RvAll W F H vs ds) (np : ∀ p c, W.po = some (p, c) → a ≠ p ∧ a ≠ c)
    (ne : ∀ j xs, j ≠ i → env[j]? = some (.o xs) → σ[j]? ≠ some (some (.ref a))) : Mt W H0 F H (σ.set i (some (.ref a))) (env.set i (.o ds)) := by
  refine ⟨by rw [List.length_set, List.length_set, m.ln], fun j s e => ?_, fun j k xs ys b e1 e2 e3 e4 => ?_⟩
  · by_cases h : j = i
    · subst h
      have hl : j < env.length := by
        have := (List.getElem?_eq_some_iff.mp e).1
        rwa [List.length_set] at this
      rw [List.getElem?_set_self hl] at e
      cases e
      exact ⟨some (.ref a), List.getElem?_set_self (by rw [← m.ln]; exact hl), a, vs, rfl, nf, n0, hA, r, np⟩
    · rw [List.getElem?_set_ne (Ne.symm h)] at e ⊢
      exact m.at_ j s e
  · have at_i : ∀ {j : Nat} {b : Addr}, j = i → (σ.set i (some (V.ref a)))[j]? = some (some (.ref b)) → b = a := fun {j b} z e => by
      subst z
      have hl : j < σ.length := by
        have := (List.getElem?_eq_some_iff.mp e).1
        rwa [List.length_set] at this
      rw [List.getElem?_set_self hl] at e
      cases e
      rfl
    by_cases h1 : j = i
    · by_cases h2 : k = i
      · rw [h1, h2]
      · have eb := at_i h1 e3
        subst eb
        rw [List.getElem?_set_ne (Ne.symm h2)] at e2 e4
        exact absurd e4 (ne k ys h2 e2)
    · by_cases h2 : k = i
      · have eb := at_i h2 e4
        subst eb
        rw [List.getElem?_set_ne (Ne.symm h1)] at e1 e3
        exact absurd e3 (ne j xs h1 e1)
      · rw [List.getElem?_set_ne (Ne.symm h1)] at e1 e3
        rw [List.getElem?_set_ne (Ne.symm h2)] at e2 e4
        exact m.own j k xs ys b e1 e2 e3 e4
theorem s_setO {te : TE} {af : AFr} {i : Nat} (he : ∀ H0, AFrs W H0 te af) : AStm W (tAsg te (gName i)) (sSetO i af) := ⟨fun F0 H0 F1 H1 De Da σ env F H ok b m k h =>
  (he H0).run σ env F H _ _ b.ex.ok m h fun ds F' H' a vs p x n nf hA r => by
    have m' := m.ext b.ex.ok x
    refine k.nx _ _ F' H' (b.step ok x) (m'.setO i nf (b.ex.there ok n) hA r (b.ex.ok.pne n) fun j xs hj e z => ?_) p
    obtain ⟨ov, e1, b', ws, e2, _, _, hb, _⟩ := m.at_ j _ e
    rw [z] at e1
    cases e1
    cases e2
    rw [n] at hb
    cases hb⟩
/-- a list of the def's own is changed -/
theorem s_own {F0 F1 F : Addr → Prop} {H0 H1 H : Hp} {σ : L2.St} {env : List Sl} (ok : Okk W F0 H0) (b : Bse W F0 H0 F1 H1 F H) (m : Mt W H0 F H σ env) {i : Nat} {xs ys : List Dat} {a : Addr} {ws : List V} (e : env[i]? = some (.o xs)) (es : σ[i]? = some (some (.ref a)))
    (nf : ¬ F a) (n0 : H0 a = none) (np : ∀ p c, W.po = some (p, c) → a ≠ p ∧ a ≠ c) (r : RvAll W F H ws ys) : Bse W F0 H0 F1 H1 F (upd H a (.lst ws)) ∧ Mt W H0 F (upd H a (.lst ws)) σ (env.set i (.o ys)) := by
  have sb : Sub F H F (upd H a (.lst ws)) := fun c f => ⟨f, upd_ne (fun z => nf (by rw [← z]; exact f))⟩
  have okk : Okk W F (upd H a (.lst ws)) := ⟨fun c f => by
    rw [(sb c f).2]
    exact b.ex.ok.tr c f, fun p c ep => by
    obtain ⟨h1, h2, h3⟩ := b.ex.ok.po p c ep
    exact ⟨h1.mut (np p c ep).1 (np p c ep).2, h2, h3⟩⟩
  refine ⟨⟨⟨b.ex.up, b.ex.dn, fun c o hc npc => ?_, okk⟩, b.sb.trans sb⟩, ?_⟩
  · rw [upd_ne (ne_of_none hc n0)]
    exact b.ex.kp c o hc npc
  · have hl : i < env.length := (List.getElem?_eq_some_iff.mp e).1
    refine ⟨by rw [List.length_set, m.ln], fun j s ej => ?_, fun j k us vs c e1 e2 e3 e4 => ?_⟩
    · by_cases h : j = i
      · subst h
        rw [List.getElem?_set_self hl] at ej
        cases ej
        exact ⟨_, es, a, ws, rfl, nf, n0, upd_same, r.sub sb, np⟩
      · rw [List.getElem?_set_ne (Ne.symm h)] at ej
        obtain ⟨ov, eo, so⟩ := m.at_ j s ej
        refine ⟨ov, eo, ?_⟩
        cases s with
        | u => trivial
        | d x =>
          obtain ⟨v, ev, rv⟩ := so
          exact ⟨v, ev, rv.sub sb⟩
        | o us =>
          obtain ⟨c, vs, ec, nfc, n0c, hc, rc, npc⟩ := so
          subst ec
          have hca : c ≠ a := fun z => h (m.own j i us xs c ej e eo (by rw [z]; exact es))
          exact ⟨c, vs, rfl, nfc, n0c, by rw [upd_ne hca]; exact hc, rc.sub sb, npc⟩
    · have old : ∀ {j : Nat} {us : List Dat}, (env.set i (.o ys))[j]? = some (.o us) → ∃ us', env[j]? = some (.o us') := fun {j us} ej => by
        by_cases h : j = i
        · subst h
          exact ⟨_, e⟩
        · rw [List.getElem?_set_ne (Ne.symm h)] at ej
          exact ⟨_, ej⟩
      obtain ⟨_, e1⟩ := old e1
      obtain ⟨_, e2⟩ := old e2
      exact m.own j k _ _ c e1 e2 e3 e4
theorem own_at {F : Addr → Prop} {H0 H : Hp} {σ : L2.St} {env : List Sl} (m : Mt W H0 F H σ env) {i : Nat} {P : List Dat → Prop} (h : oQ2 (dAt env i) P) : ∃ xs a vs, P xs ∧ env[i]? = some (.o xs) ∧ σ[i]? = some (some (.ref a)) ∧ ¬ F a ∧ H0 a = none ∧ H a = some (.lst vs) ∧ RvAll W F H vs xs ∧ ∀ p c, W.po = some (p, c) → a ≠ p ∧ a ≠ c := by
  cases e : dAt env i with
  | o xs =>
    rw [e] at h
    have e1 := dAt_get e (fun z => by cases z)
    obtain ⟨ov, e2, a, vs, rfl, nf, n0, hA, r, np⟩ := m.at_ i _ e1
    exact ⟨xs, a, vs, h, e1, e2, nf, n0, hA, r, np⟩
  | u =>
    rw [e] at h
    exact h.elim
  | d x =>
    rw [e] at h
    exact h.elim
theorem own_ext {F F' : Addr → Prop} {H H' : Hp} {a : Addr} {vs : List V} {xs : List Dat} (ok : Okk W F H) (x : Ext W F H F' H') (nf : ¬ F a) (hA : H a = some (.lst vs)) (r : RvAll W F H vs xs) (np : ∀ p c, W.po = some (p, c) → a ≠ p ∧ a ≠ c) : ¬ F' a ∧ H' a = some (.lst vs) ∧ RvAll W F' H' vs xs := by
  refine ⟨fun f => ?_, x.kp a _ hA (fun p c e => (np p c e).1), r.sub (x.sub ok)⟩
  rcases x.dn a f with z | z
  · exact nf z
  · rw [z] at hA
    cases hA
theorem s_app {te : TE} {ea : AEx} {i : Nat} (he : ∀ H0, AExp W H0 te ea) : AStm W (tDrop (tBM W.K "list" rAppend (tVar i) (tCons te tNil))) (sApp i ea) := ⟨fun F0 H0 F1 H1 De Da σ env F H ok b m k h => by
  obtain ⟨xs, a, vs, ⟨hl, h⟩, e, es, nf, n0, hA, r, np⟩ := own_at m h
  refine ⟨_, es, .inl ⟨rfl, vs, SqL.of hA⟩, ?_⟩
  refine (he H0).run σ env F H _ _ b.ex.ok m h fun d F' H' v p x rv => ?_
  obtain ⟨nf', hA', r'⟩ := own_ext b.ex.ok x nf hA r np
  obtain ⟨b2, m2⟩ := s_own ok (b.step ok x) (m.ext b.ex.ok x) e es nf' n0 np (r'.append (.cons rv .nil))
  exact ⟨a, vs, v, rfl, rfl, hA', len_size (by rw [r.length]; omega), k.nx _ _ _ _ b2 m2 p⟩⟩
/-- the list in slot i is settled -/
theorem s_fz {i : Nat} (h1 : AStm W ts as) : AStm W ts (sFz i as) := ⟨fun F0 H0 F1 H1 De Da σ env F H ok b m k h => by
  obtain ⟨xs, a, vs, h, e, es, nf, n0, hA, r, np⟩ := own_at m h
  have nH0 : H0 a = none := n0
  have ext2 : Ext W F0 H0 (fun c => F c ∨ c = a) H := Ext.fz ok b.ex n0 hA
  have sb : Sub F H (fun c => F c ∨ c = a) H := sub_fz a
  refine h1.run F0 H0 F1 H1 De Da σ (env.set i (.d (.lst xs))) _ H ok ⟨ext2, b.sb.trans sb⟩ ?_ k h
  have hl : i < env.length := (List.getElem?_eq_some_iff.mp e).1
  refine ⟨by rw [List.length_set, m.ln], fun j s ej => ?_, fun j l us ws c e1 e2 e3 e4 => ?_⟩
  · by_cases h : j = i
    · subst h
      rw [List.getElem?_set_self hl] at ej
      cases ej
      exact ⟨_, es, _, rfl, .lst (.inr rfl) hA (r.sub sb)⟩
    · rw [List.getElem?_set_ne (Ne.symm h)] at ej
      obtain ⟨ov, eo, so⟩ := m.at_ j s ej
      refine ⟨ov, eo, ?_⟩
      cases s with
      | u => trivial
      | d x =>
        obtain ⟨v, ev, rv⟩ := so
        exact ⟨v, ev, rv.sub sb⟩
      | o us =>
        obtain ⟨c, vs, ec, nfc, n0c, hc, rc, npc⟩ := so
        subst ec
        exact ⟨c, vs, rfl, fun f => by
          rcases f with f | f
          · exact nfc f
          · exact h (m.own j i us xs c ej e eo (by rw [f]; exact es)), n0c, hc, rc.sub sb, npc⟩
  · have ne : ∀ {j : Nat} {us : List Dat}, (env.set i (.d (.lst xs)))[j]? = some (.o us) → j ≠ i := fun {j us} ej z => by
      subst z
      rw [List.getElem?_set_self hl] at ej
      cases ej
    have a1 := ne e1
    have a2 := ne e2
    rw [List.getElem?_set_ne (Ne.symm a1)] at e1
    rw [List.getElem?_set_ne (Ne.symm a2)] at e2
    exact m.own j l us ws c e1 e2 e3 e4⟩
theorem s_aug {te : TE} {ea : AEx} {i : Nat} {r : TIp} {f : Dat → Dat → (Dat → Prop) → Prop} (hr : ROk W Rv Rv Rv r f) (he : ∀ H0, AExp W H0 te ea) : AStm W (tAug i te r) (sAug i ea f) := ⟨fun F0 H0 F1 H1 De Da σ env F H ok b m k h => by
  have h : dQ (dAt env i) _ := h
  cases e : dAt env i with
  | d x =>
    rw [e] at h
    obtain ⟨_, e1, v, rfl, rx⟩ := m.at_ i _ (dAt_get e (fun z => by cases z))
    refine ⟨v, e1, ?_⟩
    refine (he H0).run σ env F H _ _ b.ex.ok m h fun d F' H' u p x ru => ?_
    refine hr F' H' v u _ d _ _ x.ok (rx.sub (x.sub b.ex.ok)) ru p fun z F2 H2 w pz x2 rz => ?_
    have b' := (b.step ok x).step ok x2
    exact k.nx _ _ F2 H2 b' (((m.ext b.ex.ok x).ext x.ok x2).setD i rz) pz
  | u =>
    rw [e] at h
    exact h.elim
  | o xs =>
    rw [e] at h
    exact h.elim⟩
theorem s_for {wi : TI} {ai : AFr} {g : TG} {ag : ATg} {vs : List Nat} (hi : ∀ H0, AIter W H0 wi ai) (hg : ∀ H0, ATgt W H0 vs g ag) (hb : AStm W ts as) : AStm W (tFor wi g ts) (sFor ai ag as) := ⟨fun F0 H0 F1 H1 De Da σ env F H ok b m k h =>
  (hi H0).run σ env F H _ _ b.ex.ok m h fun ds Fa Ha J p1 x1 itk => by
  have b1 := b.step ok x1
  have m1 := m.ext b.ex.ok x1
  refine ⟨fun i n σ' H' => n + i = ds.length ∧ ∃ env' F', Bse W F0 H0 F1 H1 F' H' ∧ Sub Fa Ha F' H' ∧ Mt W H0 F' H' σ' env' ∧ forA ag as Da (ds.drop i) env', ⟨ds.length, rfl, env, Fa, b1, Sub.refl Fa Ha, m1, p1⟩, ?_⟩
  rintro i n σ2 H2 ⟨hn, env2, F2, b2, s2, m2, p2⟩
  by_cases hlt : i < ds.length
  · have hd : ds[i]? = some ds[i] := List.getElem?_eq_getElem hlt
    obtain ⟨go, yl⟩ := itk.it F2 H2 b2.ex.ok s2 i _ hd
    rw [List.drop_eq_getElem_cons hlt] at p2
    refine .inr ⟨go, fun σ' H' => ∃ env' F', Bse W F0 H0 F1 H1 F' H' ∧ Sub Fa Ha F' H' ∧ Mt W H0 F' H' σ' env' ∧ forA ag as Da (ds.drop (i + 1)) env',
      fun σ' H' ⟨env', F', rest⟩ => ⟨n - 1, by omega, by omega, env', F', rest⟩, fun x H3 y => ?_⟩
    obtain ⟨F3, x3, rx⟩ := yl x H3 y
    have b3 := b2.step ok x3
    have m3 := m2.ext b2.ex.ok x3
    have s3 := s2.trans (x3.sub b2.ex.ok)
    refine (hg H0).run x _ σ2 env2 F3 H3 _ _ x3.ok m3 rx p2 fun env4 σ4 p4 m4 _ => ?_
    exact hb.run F0 H0 F3 H3 _ { Da with nx := forA ag as Da (ds.drop (i + 1)), ct := forA ag as Da (ds.drop (i + 1)), bk := Da.nx } σ4 env4 F3 H3 ok ⟨b3.ex, Sub.refl _ _⟩ m4
      ⟨fun σ env F H b m h => ⟨env, F, ⟨b.ex, b3.sb.trans b.sb⟩, s3.trans b.sb, m, h⟩, fun v d F H b => k.rt v d F H ⟨b.ex, b3.sb.trans b.sb⟩, fun σ env F H b => k.nx σ env F H ⟨b.ex, b3.sb.trans b.sb⟩,
        fun σ env F H b m h => ⟨env, F, ⟨b.ex, b3.sb.trans b.sb⟩, s3.trans b.sb, m, h⟩⟩ p4
  · have e : i = ds.length := by omega
    subst e
    rw [List.drop_length] at p2
    exact .inl ⟨itk.done F2 H2 b2.ex.ok s2, k.nx σ2 env2 F2 H2 b2 m2 p2⟩⟩
end
/-! ### a def -/
theorem mt_start {W : Wd} {F : Addr → Prop} {H : Hp} : ∀ {N : List Str} {vs : List V} {ds : List Dat}, RvAll W F H vs ds → ds.length ≤ N.length → Mt W H F H (L2.start N vs) (ds.map Sl.d ++ List.replicate (N.length - ds.length) .u) := fun {N vs ds} r hl => by
  have lv := r.length
  unfold L2.start
  rw [lv]
  refine ⟨by simp [lv], fun j s e => ?_, fun j k us ws a e1 => ?_⟩
  · by_cases h : j < ds.length
    · rw [List.getElem?_append_left (by rw [List.length_map]; exact h), List.getElem?_map] at e
      rw [List.getElem?_append_left (by rw [List.length_map]; omega), List.getElem?_map]
      cases q : ds[j]? with
      | none =>
        rw [q] at e
        cases e
      | some d =>
        rw [q] at e
        cases e
        obtain ⟨v, e1, rv⟩ := r.get q
        rw [e1]
        exact ⟨_, rfl, v, rfl, rv⟩
    · rw [List.getElem?_append_right (by rw [List.length_map]; omega), List.length_map] at e
      rw [List.getElem?_append_right (by rw [List.length_map]; omega), List.length_map, lv]
      obtain ⟨hb, e⟩ := List.getElem?_eq_some_iff.mp e
      rw [List.getElem_replicate] at e
      rw [List.length_replicate] at hb
      subst e
      exact ⟨none, by rw [List.getElem?_eq_getElem (by rw [List.length_replicate]; exact hb), List.getElem_replicate], trivial⟩
  · exfalso
    have hm := List.mem_of_getElem? e1
    rcases List.mem_append.mp hm with h | h
    · obtain ⟨_, _, z⟩ := List.mem_map.mp h
      cases z
    · have := (List.mem_replicate.mp h).2
      cases this
theorem sp_len {K : PySem.W.Frag} {ca : Nat → Addr} {asp : ASp} {n : Nat} (hn : ∀ ds P, asp ds P → ds.length = n) {vs : List V} {H : Hp} {Q : VK} {E : XK} (h : toSp K ca asp vs H Q E) : vs.length = n := by
  obtain ⟨po, F, ds, P, ok, r, a, k⟩ := h
  rw [r.length]
  exact hn ds P a
theorem sp_lenF {K : PySem.W.Frag} {ca : Nat → Addr} {asp : ASpF} {n : Nat} (hn : ∀ ds P, asp ds P → ds.length = n) {vs : List V} {H : Hp} {Q : VK} {E : XK} (h : toSpF K ca asp vs H Q E) : vs.length = n := by
  obtain ⟨po, F, ds, P, ok, r, a, k⟩ := h
  rw [r.length]
  exact hn ds P a
theorem fn_run {K : PySem.W.Frag} {ca : Nat → Addr} {asp : ASp} {N : List Str} {vs : List V} {H : Hp} {Q : VK} {E : XK} {ts : TS} {as : ASt} (h : toSp K ca asp vs H Q E) (hs : ∀ po, AStm ⟨K, ca, po⟩ ts as) (hl : ∀ ds P, asp ds P → ds.length ≤ N.length)
    (hb : ∀ ds P, asp ds P → as { nx := fun _ => P .non, rt := P } (ds.map Sl.d ++ List.replicate (N.length - ds.length) .u)) : ts { nx := fun _ H' => Q .non H', rt := Q } (L2.start N vs) H := by
  obtain ⟨po, F, ds, P, ok, r, a, k⟩ := h
  exact (hs po).run F H F H _ { nx := fun _ => P .non, rt := P } _ _ F H ok ⟨.refl ok, Sub.refl F H⟩ (mt_start r (hl ds P a))
    ⟨fun σ env F' H' b m p => k .non F' H' .non p b.ex .non, fun v d F' H' b r p => k d F' H' v p b.ex r, fun _ _ _ _ _ _ p => p.elim, fun _ _ _ _ _ _ p => p.elim⟩ (hb ds P a)

/-! ### calls of built-in things -/
/-- a call with one argument, as f on data -/
def UOk (W : Wd) (S : Rel) (r : List V → Hp → VK → Prop) (f : Dat → (Dat → Prop) → Prop) : Prop :=
  ∀ (F : Addr → Prop) (H : Hp) (x : V) (d : Dat) (Q : VK) (P : Dat → Prop), Okk W F H → S W F H x d → f d P → (∀ z F' H' v, P z → Ext W F H F' H' → Rv W F' H' v z → Q v H') → r [x] H Q
/-- .. that makes a list -/
def UFr (W : Wd) (S : Rel) (r : List V → Hp → VK → Prop) (f : Dat → (List Dat → Prop) → Prop) : Prop :=
  ∀ (F : Addr → Prop) (H : Hp) (x : V) (d : Dat) (Q : VK) (P : List Dat → Prop), Okk W F H → S W F H x d → f d P →
    (∀ ds F' H' a vs, P ds → Ext W F H F' H' → H a = none → ¬ F' a → H' a = some (.lst vs) → RvAll W F' H' vs ds → Q (.ref a) H') → r [x] H Q
def a1F (f : Dat → (List Dat → Prop) → Prop) (ea : AEx) : AFr := fun env P => ea env fun x => f x P
/-- the items of a list or a tuple -/
def sQ : Dat → (List Dat → Prop) → Prop
  | .lst xs, P => P xs
  | .tup xs, P => P xs
  | _, _ => False
theorem Pk.seq {W : Wd} {F : Addr → Prop} {H : Hp} {v : V} {d : Dat} {P : List Dat → Prop} (k : Okk W F H) (r : Pk W F H v d) (q : sQ d P) : ∃ a vs xs, v = .ref a ∧ (SqL W.K H a vs ∨ SqT W.K H a vs) ∧ RvAll W F H vs xs ∧ P xs ∧ (d = .lst xs ∧ SqL W.K H a vs ∨ d = .tup xs ∧ SqT W.K H a vs) := by
  cases d with
  | lst xs =>
    obtain ⟨a, vs, rfl, h, _, rr⟩ := r.lst k
    exact ⟨a, vs, xs, rfl, .inl (SqL.of h), rr, q, .inl ⟨rfl, SqL.of h⟩⟩
  | tup xs =>
    cases r with
    | rv r =>
      cases r with
      | tup h rr => exact ⟨_, _, xs, rfl, .inr h.sq, rr, q, .inr ⟨rfl, h.sq⟩⟩
  | _ => exact q.elim
section
variable {W : Wd} {H0 : Hp} {te ta tb : TE} {ae ea eb : AEx} {S : Rel}
theorem a_b1 {r : List V → Hp → VK → Prop} {f : Dat → (Dat → Prop) → Prop} (hr : UOk W S r f) (ha : AEg S W H0 te ea) : AExp W H0 (tCB r (tCons te tNil)) (a1 f ea) :=
  ⟨fun σ env F H Q P ok m q k => ha.run σ env F H _ _ ok m q fun d F1 H1 v p1 x1 r1 => hr F1 H1 v d Q P x1.ok r1 p1 fun z F2 H2 w p2 x2 r2 => k z F2 H2 w p2 (x1.trans ok x2) r2⟩
theorem a_b1F {r : List V → Hp → VK → Prop} {f : Dat → (List Dat → Prop) → Prop} (hr : UFr W S r f) (ha : AEg S W H0 te ea) : AFrs W H0 (tCB r (tCons te tNil)) (a1F f ea) :=
  ⟨fun σ env F H Q P ok m q k => ha.run σ env F H _ _ ok m q fun d F1 H1 v p1 x1 r1 => hr F1 H1 v d Q P x1.ok r1 p1 fun ds F2 H2 a vs p2 x2 n nf h r => k ds F2 H2 a vs p2 (x1.trans ok x2) (x1.there ok n) nf h r⟩
/-- two arguments -/
theorem a_b2 {r : List V → Hp → VK → Prop} {f : Dat → Dat → (Dat → Prop) → Prop} (hr : ROk W Rv Rv Rv (fun x y H Q => r [x, y] H Q) f) (ha : AExp W H0 ta ea) (hb : AExp W H0 tb eb) : AExp W H0 (tCB r (tCons ta (tCons tb tNil))) (a2 f ea eb) :=
  ⟨fun σ env F H Q P ok m q k => ha.run σ env F H _ _ ok m q fun d F1 H1 v p1 x1 r1 => hb.run σ env F1 H1 _ _ x1.ok (m.ext ok x1) p1 fun e F2 H2 u p2 x2 r2 =>
    hr F2 H2 v u d e Q P x2.ok (r1.sub (x2.sub x1.ok)) r2 p2 fun z F3 H3 w p3 x3 r3 => k z F3 H3 w p3 ((x1.trans ok x2).trans ok x3) r3⟩
def kLen : Dat → (Dat → Prop) → Prop := fun d P => sQ d fun xs => P (.int (xs.length : Nat))
theorem u_len : UOk W Pk (rLen W.K) kLen := fun F H x d Q P ok r q k => by
  obtain ⟨a, vs, xs, rfl, h, rr, p, _⟩ := r.seq ok q
  exact ⟨a, vs, rfl, h, by rw [rr.length]; exact k _ F H _ p (.refl ok) (.int _)⟩
theorem u_listOf : UFr W Pk (rListOf W.K) sQ := fun F H x d Q P ok r q k => by
  obtain ⟨a, vs, xs, rfl, h, rr, p, _⟩ := r.seq ok q
  refine ⟨a, vs, rfl, h, fun l n => ?_⟩
  have x2 : Ext W F H F (upd H l (.lst vs)) := Ext.lay ok n
  exact k xs F _ l vs p x2 n (fun f => ok.tr l f n) upd_same (rr.sub (x2.sub ok))
def kTupOf : Dat → (Dat → Prop) → Prop := fun d P => sQ d fun xs => P (.tup xs)
theorem u_tupOf : UOk W Pk (rTupF W.K) kTupOf := fun F H x d Q P ok r q k => by
  cases d with
  | lst xs =>
    obtain ⟨a, vs, rfl, h, _, rr⟩ := r.lst ok
    refine ⟨a, vs, rfl, .inl ⟨SqL.of h, fun l o n tp => ?_⟩⟩
    have x2 : Ext W F H (fun b => F b ∨ b = l) (upd H l o) := Ext.new ok n
    exact k (.tup xs) _ _ _ q x2 (.tup ⟨.inr rfl, o, upd_same, tp⟩ (rr.sub (x2.sub ok)))
  | tup xs =>
    cases r with
    | rv r =>
      cases r with
      | tup h rr => exact ⟨_, _, rfl, .inr ⟨h.sq, k (.tup xs) F H _ q (.refl ok) (.tup h rr)⟩⟩
  | _ => exact q.elim
def kSum : Dat → (Dat → Prop) → Prop
  | .lst xs, P => ∃ ns : List Int, xs = ns.map Dat.int ∧ P (.int ns.sum)
  | _, _ => False
theorem u_sum : UOk W Pk (rSum W.K) kSum := fun F H x d Q P ok r q k => by
  cases d with
  | lst xs =>
    obtain ⟨a, vs, rfl, h, _, rr⟩ := r.lst ok
    obtain ⟨ns, rfl, q⟩ := q
    have e := rr.ints
    subst e
    exact ⟨a, ns, rfl, SqL.of h, k _ F H _ q (.refl ok) (.int _)⟩
  | _ => exact q.elim
def kAll : Dat → (Dat → Prop) → Prop
  | .lst xs, P => ∃ bs : List Bool, xs = bs.map Dat.bl ∧ P (.bl (bs.all id))
  | _, _ => False
theorem u_all : UOk W Pk (rAll W.K) kAll := fun F H x d Q P ok r q k => by
  cases d with
  | lst xs =>
    obtain ⟨a, vs, rfl, h, _, rr⟩ := r.lst ok
    obtain ⟨ns, rfl, q⟩ := q
    have e := rr.bls
    subst e
    exact ⟨a, ns, rfl, SqL.of h, k _ F H _ q (.refl ok) (.bl _)⟩
  | _ => exact q.elim
def kAny : Dat → (Dat → Prop) → Prop
  | .lst xs, P => ∃ bs : List Bool, xs = bs.map Dat.bl ∧ P (.bl (bs.any id))
  | _, _ => False
theorem u_any : UOk W Pk (rAny W.K) kAny := fun F H x d Q P ok r q k => by
  cases d with
  | lst xs =>
    obtain ⟨a, vs, rfl, h, _, rr⟩ := r.lst ok
    obtain ⟨ns, rfl, q⟩ := q
    have e := rr.bls
    subst e
    exact ⟨a, ns, rfl, SqL.of h, k _ F H _ q (.refl ok) (.bl _)⟩
  | _ => exact q.elim
def kInt : Dat → (Dat → Prop) → Prop
  | .int i, P => P (.int i)
  | .bl b, P => P (.int (if b then 1 else 0))
  | _, _ => False
theorem u_int : UOk W Rv (fun xs H Q => (∃ i, xs = [.int i] ∧ Q (.int i) H) ∨ ∃ k, xs = [.bl k] ∧ Q (.int (if k = true then 1 else 0)) H) kInt := fun F H x d Q P ok r q k => by
  cases r with
  | int i => exact .inl ⟨i, rfl, k _ F H _ q (.refl ok) (.int _)⟩
  | bl b => exact .inr ⟨b, rfl, k _ F H _ q (.refl ok) (.int _)⟩
  | _ => exact q.elim
def kStr : Dat → (Dat → Prop) → Prop
  | .int i, P => i.natAbs < 1000000 ∧ P (.str (toString i))
  | _, _ => False
theorem log_small {n : Nat} (h : n < 1000000) : n.log2 < 1920 := by
  by_cases z : n = 0
  · subst z
    decide
  · exact (Nat.log2_lt z).mpr (Nat.lt_trans h (Nat.lt_of_lt_of_le (show 1000000 < 2 ^ 20 by decide) (Nat.pow_le_pow_right (by decide) (by decide))))
theorem u_str : UOk W Rv (fun xs H Q => ∃ i, xs = [.int i] ∧ i.natAbs.log2 < 1920 ∧ Q (.str (toString i)) H) kStr := fun F H x d Q P ok r q k => by
  cases r with
  | int i => exact ⟨i, rfl, log_small q.1, k _ F H _ q.2 (.refl ok) (.str _)⟩
  | _ => exact q.elim
def kMax2 : Dat → Dat → (Dat → Prop) → Prop
  | .int i, .int j, P => P (.int (if j > i then j else i))
  | _, _, _ => False
theorem rok_max2 : ROk W Rv Rv Rv (fun x y H Q => ∃ i j, [x, y] = [V.int i, .int j] ∧ Q (.int (if j > i then j else i)) H) kMax2 := fun F H x y d e Q P ok r1 r2 q k => by
  cases r1 <;> cases r2 <;> first | exact q.elim | exact ⟨_, _, rfl, k _ F H _ q (.refl ok) (.int _)⟩
/-! texts -/
def kCatS : Dat → Dat → (Dat → Prop) → Prop
  | .str i, .str j, P => i.length + j.length ≤ 100000 ∧ P (.str (i ++ j))
  | _, _, _ => False
theorem rok_catS : ROk W Rv Rv Rv (fun x y H Q => ∃ i j, x = .str i ∧ y = .str j ∧ i.length + j.length ≤ sizeLine ∧ Q (.str (i ++ j)) H) kCatS := fun F H x y d e Q P ok r1 r2 q k => by
  cases r1 <;> cases r2 <;> first | exact q.elim | exact ⟨_, _, rfl, rfl, Nat.le_of_lt (len_size q.1), k _ F H _ q.2 (.refl ok) (.str _)⟩
/-! lists, tuples -/
def kCatT : Dat → Dat → (Dat → Prop) → Prop
  | .tup xs, .tup ys, P => xs.length + ys.length ≤ 100000 ∧ P (.tup (xs ++ ys))
  | _, _, _ => False
theorem rok_catT : ROk W Rv Rv Rv (rCatF W.K) kCatT := fun F H x y d e Q P ok r1 r2 q k => by
  cases r1 with
  | @tup a1 v1 d1 h1 s1 =>
    cases r2 with
    | @tup a2 v2 d2 h2 s2 =>
      obtain ⟨sz, q⟩ := q
      refine ⟨_, _, _, _, rfl, rfl, h1.sq, h2.sq, Nat.le_of_lt (len_size (by rw [s1.length, s2.length]; exact sz)), fun e => ?_, fun _ e => ?_, fun _ _ a o n tp => ?_⟩
      · subst e
        cases s1
        exact k _ F H _ q (.refl ok) (.tup h2 s2)
      · subst e
        cases s2
        rw [List.append_nil] at q
        exact k _ F H _ q (.refl ok) (.tup h1 s1)
      · have x2 : Ext W F H (fun b => F b ∨ b = a) (upd H a o) := Ext.new ok n
        exact k _ _ _ _ q x2 (.tup ⟨.inr rfl, o, upd_same, tp⟩ ((s1.append s2).sub (x2.sub ok)))
    | _ => exact q.elim
  | _ => exact q.elim
/-- an operation that makes a list -/
def RFr (W : Wd) (S1 S2 : Rel) (r : L2.R2) (f : Dat → Dat → (List Dat → Prop) → Prop) : Prop :=
  ∀ (F : Addr → Prop) (H : Hp) (x y : V) (d e : Dat) (Q : VK) (P : List Dat → Prop), Okk W F H → S1 W F H x d → S2 W F H y e → f d e P →
    (∀ ds F' H' a vs, P ds → Ext W F H F' H' → H a = none → ¬ F' a → H' a = some (.lst vs) → RvAll W F' H' vs ds → Q (.ref a) H') → r x y H Q
def a2F (f : Dat → Dat → (List Dat → Prop) → Prop) (ea eb : AEx) : AFr := fun env P => ea env fun x => eb env fun y => f x y P
theorem a_opF {S1 S2 : Rel} {r : L2.R2} {f : Dat → Dat → (List Dat → Prop) → Prop} (pr : Pst S1) (hr : RFr W S1 S2 r f) (ha : AEg S1 W H0 ta ea) (hb : AEg S2 W H0 tb eb) : AFrs W H0 (tOp r ta tb) (a2F f ea eb) :=
  ⟨fun σ env F H Q P ok m q k => ha.run σ env F H _ _ ok m q fun d F1 H1 v p1 x1 r1 => hb.run σ env F1 H1 _ _ x1.ok (m.ext ok x1) p1 fun e F2 H2 u p2 x2 r2 =>
    hr F2 H2 v u d e Q P x2.ok (pr.run x1.ok x2 r1) r2 p2 fun ds F3 H3 a vs p3 x3 n nf h r => k ds F3 H3 a vs p3 ((x1.trans ok x2).trans ok x3) ((x1.trans ok x2).there ok n) nf h r⟩
def kCatL : Dat → Dat → (List Dat → Prop) → Prop
  | .lst xs, .lst ys, P => xs.length + ys.length ≤ 100000 ∧ P (xs ++ ys)
  | _, _, _ => False
theorem rok_catL : RFr W Pk Pk rCat kCatL := fun F H x y d e Q P ok r1 r2 q k => by
  cases d with
  | lst xs =>
    cases e with
    | lst ys =>
      obtain ⟨a, vs, rfl, h1, _, s1⟩ := r1.lst ok
      obtain ⟨b, ws, rfl, h2, _, s2⟩ := r2.lst ok
      refine ⟨a, b, vs, ws, rfl, rfl, h1, h2, Nat.le_of_lt (len_size (by rw [s1.length, s2.length]; exact q.1)), fun l n => ?_⟩
      have x2 : Ext W F H F (upd H l (.lst (vs ++ ws))) := Ext.lay ok n
      exact k _ F _ l _ q.2 x2 n (fun f => ok.tr l f n) upd_same ((s1.append s2).sub (x2.sub ok))
    | _ => exact q.elim
  | _ => exact q.elim
/-! slices -/
abbrev AOp := List Sl → (Option Int → Prop) → Prop
structure AOpt (W : Wd) (H0 : Hp) (t : TO) (ao : AOp) : Prop where
  run : ∀ (σ : L2.St) (env : List Sl) (F : Addr → Prop) (H : Hp) (Q : Option Int → Hp → Prop) (P : Option Int → Prop), Okk W F H → Mt W H0 F H σ env → ao env P → (∀ o F' H', P o → Ext W F H F' H' → Q o H') → t σ H Q
def aoN : AOp := fun _ P => P none
def aoS (ea : AEx) : AOp := fun env P => ea env fun x => match x with
  | .int i => P (some i)
  | _ => False
theorem ao_none : AOpt W H0 tNoPart aoN := ⟨fun σ env F H Q P ok m q k => k none F H q (.refl ok)⟩
theorem ao_some (h : AExp W H0 te ea) : AOpt W H0 (tPart te) (aoS ea) := ⟨fun σ env F H Q P ok m q k => h.run σ env F H _ _ ok m q fun d F1 H1 v p1 x1 r1 => by
  cases r1 with
  | int i => exact ⟨i, rfl, k _ F1 H1 p1 x1⟩
  | _ => exact p1.elim⟩
def cutD (xs : List Dat) (lo hi : Option Int) : List Dat := (xs.drop (HT.sIx xs.length 0 lo)).take (HT.sIx xs.length xs.length hi - HT.sIx xs.length 0 lo)
theorem RvAll.cut {F : Addr → Prop} {H : Hp} {vs : List V} {xs : List Dat} (r : RvAll W F H vs xs) (lo hi : Option Int) : RvAll W F H (cutV vs lo hi) (cutD xs lo hi) := by
  unfold cutV cutD
  rw [r.length]
  exact (r.drop _).take _
theorem cutD_all (xs : List Dat) (lo hi : Option Int) (h1 : HT.sIx xs.length 0 lo = 0) (h2 : HT.sIx xs.length xs.length hi = xs.length) : cutD xs lo hi = xs := by
  unfold cutD
  rw [h1, h2]
  simp
def aSlF (ea : AEx) (al ah : AOp) : AFr := fun env P => ea env fun x => al env fun lo => ah env fun hi => lQ x fun xs => P (cutD xs lo hi)
def aSlT (ea : AEx) (al ah : AOp) : AEx := fun env P => ea env fun x => al env fun lo => ah env fun hi => tQ x fun xs => P (.tup (cutD xs lo hi))
theorem a_slL {tl th : TO} {al ah : AOp} (ha : AEg Pk W H0 te ea) (hl : AOpt W H0 tl al) (hh : AOpt W H0 th ah) : AFrs W H0 (tSl (rSlL W.K) te tl th) (aSlF ea al ah) :=
  ⟨fun σ env F H Q P ok m q k => ha.run σ env F H _ _ ok m q fun d F1 H1 v p1 x1 r1 => hl.run σ env F1 H1 _ _ x1.ok (m.ext ok x1) p1 fun lo F2 H2 p2 x2 => hh.run σ env F2 H2 _ _ x2.ok (m.ext ok (x1.trans ok x2)) p2 fun hi F3 H3 p3 x3 => by
    have r3 := pst_pk.run x2.ok x3 (pst_pk.run x1.ok x2 r1)
    cases d with
    | lst xs =>
      obtain ⟨a, vs, rfl, h, _, rr⟩ := r3.lst x3.ok
      refine ⟨a, vs, rfl, SqL.of h, fun l n => ?_⟩
      have x4 : Ext W F3 H3 F3 (upd H3 l (.lst (cutV vs lo hi))) := Ext.lay x3.ok n
      have x13 := (x1.trans ok x2).trans ok x3
      exact k _ F3 _ l _ p3 (x13.trans ok x4) (x13.there ok n) (fun f => x3.ok.tr l f n) upd_same ((rr.cut lo hi).sub (x4.sub x3.ok))
    | _ => exact p3.elim⟩
theorem a_slT {tl th : TO} {al ah : AOp} (ha : AExp W H0 te ea) (hl : AOpt W H0 tl al) (hh : AOpt W H0 th ah) : AExp W H0 (tSl (rSlF W.K) te tl th) (aSlT ea al ah) :=
  ⟨fun σ env F H Q P ok m q k => ha.run σ env F H _ _ ok m q fun d F1 H1 v p1 x1 r1 => hl.run σ env F1 H1 _ _ x1.ok (m.ext ok x1) p1 fun lo F2 H2 p2 x2 => hh.run σ env F2 H2 _ _ x2.ok (m.ext ok (x1.trans ok x2)) p2 fun hi F3 H3 p3 x3 => by
    have r3 := (r1.sub (x2.sub x1.ok)).sub (x3.sub x2.ok)
    have x13 := (x1.trans ok x2).trans ok x3
    cases r3 with
    | @tup a vs xs h rr =>
      refine ⟨a, vs, rfl, h.sq, fun ⟨h1, h2⟩ => ?_, fun _ l o n tp => ?_⟩
      · rw [rr.length] at h1 h2
        have p3 : P (.tup (cutD xs lo hi)) := p3
        rw [cutD_all xs lo hi h1 h2] at p3
        exact k _ F3 H3 _ p3 x13 (.tup h rr)
      · have x4 : Ext W F3 H3 (fun b => F3 b ∨ b = l) (upd H3 l o) := Ext.new x3.ok n
        exact k _ _ _ _ p3 (x13.trans ok x4) (.tup ⟨.inr rfl, o, upd_same, tp⟩ ((rr.cut lo hi).sub (x4.sub x3.ok)))
    | _ => exact p3.elim⟩
end

/-! ### walks over lists and tuples alike, pairs, numbered items -/
theorem kQ_sub {W : Wd} {F F2 : Addr → Prop} {H H2 : Hp} {k : Bool} {a : Addr} {vs : List V} (h : if k = true then FzT W F H a vs else F a ∧ H a = some (.lst vs)) (s : Sub F H F2 H2) : SqK k W.K H2 a vs := by
  cases k with
  | true => exact ((show FzT W F H a vs from h).sub s).sq
  | false =>
    have h : F a ∧ H a = some (.lst vs) := h
    exact SqL.of ((s a h.1).2.trans h.2)
theorem kQ_rv {W : Wd} {F : Addr → Prop} {H : Hp} {k : Bool} {v : V} {d : Dat} {P : List Dat → Prop} (r : Rv W F H v d) (q : kQ k d P) : ∃ a vs xs, v = .ref a ∧ (if k = true then FzT W F H a vs else F a ∧ H a = some (.lst vs)) ∧ RvAll W F H vs xs ∧ P xs := by
  cases k with
  | true =>
    cases r with
    | tup h rr => exact ⟨_, _, _, rfl, h, rr, q⟩
    | _ => exact (show False from q).elim
  | false =>
    cases r with
    | lst f h rr => exact ⟨_, _, _, rfl, ⟨f, h⟩, rr, q⟩
    | _ => exact (show False from q).elim
/-- pairs, as far as both go -/
def zipD : List Dat → List Dat → List Dat
  | x :: xs, y :: ys => .tup [x, y] :: zipD xs ys
  | _, _ => []
theorem zipD_get : ∀ (xs ys : List Dat) (i : Nat) (d : Dat), (zipD xs ys)[i]? = some d → ∃ x y, xs[i]? = some x ∧ ys[i]? = some y ∧ d = .tup [x, y]
  | [], _, i, d, e => by simp [zipD] at e
  | _ :: _, [], i, d, e => by simp [zipD] at e
  | x :: xs, y :: ys, 0, d, e => by
    simp only [zipD, List.getElem?_cons_zero, Option.some.injEq] at e
    exact ⟨x, y, rfl, rfl, e.symm⟩
  | x :: xs, y :: ys, i + 1, d, e => by
    simp only [zipD, List.getElem?_cons_succ] at e ⊢
    exact zipD_get xs ys i d e
theorem zipD_len : ∀ xs ys : List Dat, (zipD xs ys).length ≤ xs.length ∧ (zipD xs ys).length ≤ ys.length ∧ ((zipD xs ys).length = xs.length ∨ (zipD xs ys).length = ys.length)
  | [], _ => by simp [zipD]
  | _ :: _, [] => by simp [zipD]
  | x :: xs, y :: ys => by
    have := zipD_len xs ys
    simp only [zipD, List.length_cons]
    omega
def enumD : Nat → List Dat → List Dat
  | _, [] => []
  | n, x :: xs => .tup [.int (n : Nat), x] :: enumD (n + 1) xs
theorem enumD_get : ∀ (xs : List Dat) (n i : Nat) (d : Dat), (enumD n xs)[i]? = some d → ∃ x, xs[i]? = some x ∧ d = .tup [.int ((n + i : Nat) : Int), x]
  | [], n, i, d, e => by simp [enumD] at e
  | x :: xs, n, 0, d, e => by
    simp only [enumD, List.getElem?_cons_zero, Option.some.injEq] at e
    exact ⟨x, rfl, e.symm⟩
  | x :: xs, n, i + 1, d, e => by
    simp only [enumD, List.getElem?_cons_succ] at e ⊢
    obtain ⟨y, h1, h2⟩ := enumD_get xs (n + 1) i d e
    exact ⟨y, h1, by rw [h2, Nat.add_right_comm, Nat.add_assoc]⟩
theorem enumD_len : ∀ (xs : List Dat) (n : Nat), (enumD n xs).length = xs.length
  | [], _ => rfl
  | _ :: xs, n => congrArg (· + 1) (enumD_len xs (n + 1))
def iZipA (k1 k2 : Bool) (aa : AFr) : AFr := fun env P => aa env fun ds => match ds with
  | [x, y] => kQ k1 x fun xs => kQ k2 y fun ys => P (zipD xs ys)
  | _ => False
def iEnA (k : Bool) (aa : AFr) : AFr := fun env P => aa env fun ds => match ds with
  | [x] => kQ k x fun xs => P (enumD 0 xs)
  | _ => False
section
variable {W : Wd} {H0 : Hp} {te ta tb : TE} {ae ea eb : AEx}
theorem i_K {k : Bool} (ha : AExp W H0 ta ea) : AIter W H0 (iK k W.K ta) (iSeq (kQ k) ea) := ⟨fun σ env F H R P ok m q kk => ha.run σ env F H _ _ ok m q fun d F1 H1 v p1 x1 r1 => by
  cases k with
  | true =>
    cases r1 with
    | tup h r => exact ⟨_, rfl, ⟨_, h.sq⟩, kk _ F1 H1 _ p1 x1 (it_tup h r)⟩
    | _ => exact (show False from p1).elim
  | false =>
    cases r1 with
    | lst f h r => exact ⟨_, rfl, ⟨_, SqL.of h⟩, kk _ F1 H1 _ p1 x1 (it_list f h r)⟩
    | _ => exact (show False from p1).elim⟩
theorem i_zip {k1 k2 : Bool} {t : TA} {aa : AFr} (h : AArg W H0 2 t aa) : AIter W H0 (iZipF k1 k2 W.K t) (iZipA k1 k2 aa) := ⟨fun σ env F H R P ok m q kk => h.run σ env F H _ _ ok m q fun ds F1 H1 vs p1 x1 r1 l1 => by
  match ds, l1, p1, r1 with
  | [d, e], _, p1, .cons r1 (.cons r2 .nil) =>
    have p1 : kQ k1 d fun xs => kQ k2 e fun ys => P (zipD xs ys) := p1
    obtain ⟨a, us, xs, rfl, ha, ra, p1⟩ := kQ_rv r1 p1
    obtain ⟨b, ws, ys, rfl, hb, rb, p1⟩ := kQ_rv r2 p1
    have qa := kQ_sub ha (Sub.refl _ _)
    have qb := kQ_sub hb (Sub.refl _ _)
    refine ⟨a, b, us, ws, rfl, qa, qb, kk _ F1 H1 _ p1 x1 ⟨fun F2 H2 ok2 s i z e => ?_, fun F2 H2 ok2 s => ?_⟩⟩
    · obtain ⟨x, y, e1, e2, rfl⟩ := zipD_get xs ys i z e
      obtain ⟨v, f1, rv⟩ := ra.get e1
      obtain ⟨w, f2, rw_⟩ := rb.get e2
      have qa2 := kQ_sub ha s
      have qb2 := kQ_sub hb s
      refine ⟨⟨us, ws, v, w, qa2, qb2, f1, f2⟩, fun u H3 yl => ?_⟩
      obtain ⟨T, v', w', o, rfl, hT, tp, rfl, g1, g2⟩ := yl
      have g1 := g1 us qa2
      have g2 := g2 ws qb2
      rw [f1] at g1
      rw [f2] at g2
      cases g1
      cases g2
      have x2 : Ext W F2 H2 (fun c => F2 c ∨ c = T) (upd H2 T o) := Ext.new ok2 hT
      have s2 := s.trans (x2.sub ok2)
      exact ⟨_, x2, .tup ⟨.inr rfl, o, upd_same, tp⟩ (.cons (rv.sub s2) (.cons (rw_.sub s2) .nil))⟩
    · have := zipD_len xs ys
      have la := ra.length
      have lb := rb.length
      exact ⟨us, ws, kQ_sub ha s, kQ_sub hb s, by omega, by omega, by omega⟩⟩
theorem i_enum {k : Bool} {t : TA} {aa : AFr} (h : AArg W H0 1 t aa) : AIter W H0 (iEnumF k W.K t) (iEnA k aa) := ⟨fun σ env F H R P ok m q kk => h.run σ env F H _ _ ok m q fun ds F1 H1 vs p1 x1 r1 l1 => by
  match ds, l1, p1, r1 with
  | [d], _, p1, .cons r1 .nil =>
    have p1 : kQ k d fun xs => P (enumD 0 xs) := p1
    obtain ⟨a, us, xs, rfl, ha, ra, p1⟩ := kQ_rv r1 p1
    refine ⟨a, us, rfl, kQ_sub ha (Sub.refl _ _), kk _ F1 H1 _ p1 x1 ⟨fun F2 H2 ok2 s i z e => ?_, fun F2 H2 ok2 s => ?_⟩⟩
    · obtain ⟨x, e1, rfl⟩ := enumD_get xs 0 i z e
      obtain ⟨v, f1, rv⟩ := ra.get e1
      have qa2 : SqK k W.K H2 a us := kQ_sub ha s
      refine ⟨⟨us, v, qa2, f1⟩, fun u H3 yl => ?_⟩
      obtain ⟨T, v', o, rfl, hT, tp, rfl, g1⟩ := yl
      have g1 := g1 us qa2
      rw [f1] at g1
      cases g1
      have x2 : Ext W F2 H2 (fun c => F2 c ∨ c = T) (upd H2 T o) := Ext.new ok2 hT
      have s2 := s.trans (x2.sub ok2)
      exact ⟨_, x2, .tup ⟨.inr rfl, o, upd_same, tp⟩ (.cons (by rw [Nat.zero_add]; exact .int _) (.cons (rv.sub s2) .nil))⟩
    · exact ⟨us, kQ_sub ha s, by rw [enumD_len, ra.length]⟩⟩
end
/-! ### in, index -/
def flatD : Dat → Bool
  | .int _ => true
  | .str _ => true
  | _ => false
/-- x in xs: ints and texts -/
def kIn (n : Bool) : Dat → Dat → (Dat → Prop) → Prop := fun x y P => flatD x = true ∧ sQ y fun xs => xs.all flatD = true ∧ ∀ b : Bool, (b = true ↔ x ∈ xs) → P (.bl (if n then !b else b))
theorem flat_v {W : Wd} {F : Addr → Prop} {H : Hp} {v : V} {d : Dat} (r : Rv W F H v d) (f : flatD d = true) : flatV v = true := by
  cases r <;> first | rfl | cases f
theorem flat_vs {W : Wd} {F : Addr → Prop} {H : Hp} : ∀ {vs : List V} {ds : List Dat}, RvAll W F H vs ds → ds.all flatD = true → vs.all flatV = true
  | _, _, .nil, _ => rfl
  | _, _, .cons a r, f => by
    rw [List.all_cons, Bool.and_eq_true] at f ⊢
    exact ⟨flat_v a f.1, flat_vs r f.2⟩
theorem eqV_flat {W : Wd} {F : Addr → Prop} {H : Hp} {v w : V} {d e : Dat} (r : Rv W F H v d) (s : Rv W F H w e) (f : flatD d = true) (g : flatD e = true) : eqV w v = true ↔ e = d := by
  cases r with
  | int i =>
    cases s with
    | int j =>
      show (j == i) = true ↔ _
      rw [beq_iff_eq]
      exact ⟨fun h => by rw [h], fun h => Dat.int.inj h⟩
    | str y => exact ⟨fun h => (by cases h), fun h => (by cases h)⟩
    | _ => cases g
  | str x =>
    cases s with
    | int j => exact ⟨fun h => (by cases h), fun h => (by cases h)⟩
    | str y =>
      show (y == x) = true ↔ _
      rw [beq_iff_eq]
      exact ⟨fun h => by rw [h], fun h => Dat.str.inj h⟩
    | _ => cases g
  | _ => cases f
theorem inV_mem {W : Wd} {F : Addr → Prop} {H : Hp} {v : V} {d : Dat} (r : Rv W F H v d) (f : flatD d = true) : ∀ {vs : List V} {ds : List Dat}, RvAll W F H vs ds → ds.all flatD = true → (inV v vs = true ↔ d ∈ ds)
  | _, _, .nil, _ => ⟨fun h => (by cases h), fun h => (by cases h)⟩
  | _, _, .cons (v := u) (d := e) a s, g => by
    rw [List.all_cons, Bool.and_eq_true] at g
    have ih := inV_mem r f s g.2
    have he := eqV_flat r a f g.1
    unfold inV at ih ⊢
    rw [List.any_cons, Bool.or_eq_true, ih, he, List.mem_cons]
    exact ⟨fun h => h.imp (fun z => z.symm) id, fun h => h.imp (fun z => z.symm) id⟩
theorem rok_in {W : Wd} {n : Bool} : ROk W Rv Pk Rv (rIn W.K n) (kIn n) := fun F H x y d e Q P ok r1 r2 q k => by
  obtain ⟨f, q⟩ := q
  obtain ⟨a, vs, xs, rfl, h, rr, ⟨g, q⟩, _⟩ := r2.seq ok q
  refine ⟨a, vs, rfl, h, flat_v r1 f, flat_vs rr g, ?_⟩
  have := q (inV x vs) (inV_mem r1 f rr g)
  cases n with
  | true => exact k _ F H _ this (.refl ok) (.bl _)
  | false => exact k _ F H _ this (.refl ok) (.bl _)

/-! ### rules with the written part told, for readings over data -/
theorem kslA {X : Cx} {K : PySem.W.Frag} (hK : X.K = K) : SlR X (rSlA K) := by
  subst hK
  exact sl_tupA
theorem kcatA {X : Cx} {K : PySem.W.Frag} (hK : X.K = K) : OpR X (binaryOp .Add) (rCatA K) := by
  subst hK
  exact op_catA
theorem rok_ip {W : Wd} {g : Int → Int → Int} : ROk W Rv Rv Rv (ipI fun i j => g i j) (kI0 fun i j => .int (g i j)) := fun F H x y d e Q P ok r1 r2 q k => by
  cases r1 <;> cases r2 <;> first | exact q.elim | exact ⟨_, _, rfl, rfl, k _ F H _ q (.refl ok) (.int _)⟩
/-! == of data: ints, texts, None, lists and tuples of such -/
mutual
def pyD : Dat → PyData
  | .int i => .int i
  | .str x => .str x
  | .lst xs => .list (pyAll xs)
  | .tup xs => .tuple (pyAll xs)
  | _ => .none
def pyAll : List Dat → List PyData
  | [] => []
  | x :: xs => pyD x :: pyAll xs
end
mutual
def layD : Dat → Bool
  | .int _ => true
  | .str x => PyData.strOk x
  | .lst xs => layAll xs
  | .tup xs => layAll xs
  | .non => true
  | _ => false
def layAll : List Dat → Bool
  | [] => true
  | x :: xs => layD x && layAll xs
end
def okE (n : Nat) (d : Dat) : Prop := layD d = true ∧ PyData.depth (pyD d) ≤ n
mutual
theorem lay_can : ∀ d : Dat, layD d = true → PyData.canLay0 (pyD d) = true
  | .non, _ => rfl
  | .int _, _ => rfl
  | .str _, h => h
  | .lst xs, h => by
    show PyData.canLayAll0 (pyAll xs) = true
    exact layAll_can xs h
  | .tup xs, h => by
    show PyData.canLayAll0 (pyAll xs) = true
    exact layAll_can xs h
  | .bl _, h => by cases h
  | .pool, h => by cases h
  | .obj _ _, h => by cases h
  | .dK _, h => by cases h
theorem layAll_can : ∀ xs : List Dat, layAll xs = true → PyData.canLayAll0 (pyAll xs) = true
  | [], _ => rfl
  | x :: xs, h => by
    have h : (layD x && layAll xs) = true := h
    rw [Bool.and_eq_true] at h
    show (PyData.canLay0 (pyD x) && PyData.canLayAll0 (pyAll xs)) = true
    rw [lay_can x h.1, layAll_can xs h.2]
    rfl
end
mutual
theorem lay_dp {W : Wd} {F : Addr → Prop} {H : Hp} : ∀ {v : V} {d : Dat}, Rv W F H v d → layD d = true → Dp W.K H v (pyD d)
  | _, _, .non, _ => .non
  | _, _, .int i, _ => .int i
  | _, _, .str x, _ => .str x
  | _, _, .lst f h r, q => .lst (SqL.of h) (layAll_dp r q)
  | _, _, .tup h r, q => .tup h.sq (layAll_dp r q)
  | _, _, .bl _, q => by cases q
  | _, _, .pool _, q => by cases q
  | _, _, .obj _ _ _ _, q => by cases q
  | _, _, .dK _ _ _, q => by cases q
theorem layAll_dp {W : Wd} {F : Addr → Prop} {H : Hp} : ∀ {vs : List V} {ds : List Dat}, RvAll W F H vs ds → layAll ds = true → DpAll W.K H vs (pyAll ds)
  | _, _, .nil, _ => .nil
  | _, _, .cons a r, q => by
    have q : (_ && _) = true := q
    rw [Bool.and_eq_true] at q
    exact .cons (lay_dp a q.1) (layAll_dp r q.2)
end
mutual
theorem lay_eqv : ∀ d e : Dat, layD d = true → layD e = true → (PyData.eqv (pyD d) (pyD e) = true ↔ d = e)
  | .int i, .int j, _, _ => by
    show (i == j) = true ↔ _
    rw [beq_iff_eq]
    exact ⟨fun e => by rw [e], fun e => Dat.int.inj e⟩
  | .str i, .str j, _, _ => by
    show (i == j) = true ↔ _
    rw [beq_iff_eq]
    exact ⟨fun e => by rw [e], fun e => Dat.str.inj e⟩
  | .lst xs, .lst ys, h1, h2 => by
    show PyData.eqvAll (pyAll xs) (pyAll ys) = true ↔ _
    rw [layAll_eqv xs ys h1 h2]
    exact ⟨fun e => by rw [e], fun e => Dat.lst.inj e⟩
  | .tup xs, .tup ys, h1, h2 => by
    show PyData.eqvAll (pyAll xs) (pyAll ys) = true ↔ _
    rw [layAll_eqv xs ys h1 h2]
    exact ⟨fun e => by rw [e], fun e => Dat.tup.inj e⟩
  | .non, .non, _, _ => ⟨fun _ => rfl, fun _ => rfl⟩
  | .non, .int _, _, _ => ⟨fun h => (by cases h), fun h => (by cases h)⟩
  | .non, .str _, _, _ => ⟨fun h => (by cases h), fun h => (by cases h)⟩
  | .non, .lst _, _, _ => ⟨fun h => (by cases h), fun h => (by cases h)⟩
  | .non, .tup _, _, _ => ⟨fun h => (by cases h), fun h => (by cases h)⟩
  | .int _, .non, _, _ => ⟨fun h => (by cases h), fun h => (by cases h)⟩
  | .int _, .str _, _, _ => ⟨fun h => (by cases h), fun h => (by cases h)⟩
  | .int _, .lst _, _, _ => ⟨fun h => (by cases h), fun h => (by cases h)⟩
  | .int _, .tup _, _, _ => ⟨fun h => (by cases h), fun h => (by cases h)⟩
  | .str _, .non, _, _ => ⟨fun h => (by cases h), fun h => (by cases h)⟩
  | .str _, .int _, _, _ => ⟨fun h => (by cases h), fun h => (by cases h)⟩
  | .str _, .lst _, _, _ => ⟨fun h => (by cases h), fun h => (by cases h)⟩
  | .str _, .tup _, _, _ => ⟨fun h => (by cases h), fun h => (by cases h)⟩
  | .lst _, .non, _, _ => ⟨fun h => (by cases h), fun h => (by cases h)⟩
  | .lst _, .int _, _, _ => ⟨fun h => (by cases h), fun h => (by cases h)⟩
  | .lst _, .str _, _, _ => ⟨fun h => (by cases h), fun h => (by cases h)⟩
  | .lst _, .tup _, _, _ => ⟨fun h => (by cases h), fun h => (by cases h)⟩
  | .tup _, .non, _, _ => ⟨fun h => (by cases h), fun h => (by cases h)⟩
  | .tup _, .int _, _, _ => ⟨fun h => (by cases h), fun h => (by cases h)⟩
  | .tup _, .str _, _, _ => ⟨fun h => (by cases h), fun h => (by cases h)⟩
  | .tup _, .lst _, _, _ => ⟨fun h => (by cases h), fun h => (by cases h)⟩
  | .bl _, _, h, _ => by cases h
  | .pool, _, h, _ => by cases h
  | .obj _ _, _, h, _ => by cases h
  | .dK _, _, h, _ => by cases h
  | _, .bl _, _, h => by cases h
  | _, .pool, _, h => by cases h
  | _, .obj _ _, _, h => by cases h
  | _, .dK _, _, h => by cases h
theorem layAll_eqv : ∀ xs ys : List Dat, layAll xs = true → layAll ys = true → (PyData.eqvAll (pyAll xs) (pyAll ys) = true ↔ xs = ys)
  | [], [], _, _ => ⟨fun _ => rfl, fun _ => rfl⟩
  | [], _ :: _, _, _ => ⟨fun h => (by cases h), fun h => (by cases h)⟩
  | _ :: _, [], _, _ => ⟨fun h => (by cases h), fun h => (by cases h)⟩
  | x :: xs, y :: ys, h1, h2 => by
    have h1 : (layD x && layAll xs) = true := h1
    have h2 : (layD y && layAll ys) = true := h2
    rw [Bool.and_eq_true] at h1 h2
    show (PyData.eqv (pyD x) (pyD y) && PyData.eqvAll (pyAll xs) (pyAll ys)) = true ↔ _
    rw [Bool.and_eq_true, lay_eqv x y h1.1 h2.1, layAll_eqv xs ys h1.2 h2.2, List.cons.injEq]
end
theorem okE_sh {d : Dat} (h : okE 64 d) : SeqAt.shaped (pyD d) = true := by
  unfold SeqAt.shaped
  rw [lay_can d h.1, decide_eq_true h.2]
  rfl
theorem layAll_of : ∀ {xs : List Dat}, (∀ x ∈ xs, layD x = true) → layAll xs = true
  | [], _ => rfl
  | x :: xs, h => by
    show (layD x && layAll xs) = true
    rw [h x List.mem_cons_self, layAll_of fun y hy => h y (List.mem_cons_of_mem _ hy)]
    rfl
theorem depAll_of : ∀ {xs : List Dat} {n : Nat}, (∀ x ∈ xs, PyData.depth (pyD x) ≤ n) → PyData.depthAll (pyAll xs) ≤ n
  | [], n, _ => Nat.zero_le n
  | x :: xs, n, h => by
    show max (PyData.depth (pyD x)) (PyData.depthAll (pyAll xs)) ≤ n
    exact Nat.max_le.mpr ⟨h x List.mem_cons_self, depAll_of fun y hy => h y (List.mem_cons_of_mem _ hy)⟩
theorem okE.up {n m : Nat} {d : Dat} (h : okE n d) (l : n ≤ m) : okE m d := ⟨h.1, Nat.le_trans h.2 l⟩
theorem okE_int (i : Int) (n : Nat) : okE n (.int i) := ⟨rfl, Nat.zero_le n⟩
theorem okE_tup {xs : List Dat} {n : Nat} (h : ∀ x ∈ xs, okE n x) : okE (n + 1) (.tup xs) := ⟨layAll_of fun x hx => (h x hx).1, Nat.succ_le_succ (depAll_of fun x hx => (h x hx).2)⟩
theorem okE_lst {xs : List Dat} {n : Nat} (h : ∀ x ∈ xs, okE n x) : okE (n + 1) (.lst xs) := ⟨layAll_of fun x hx => (h x hx).1, Nat.succ_le_succ (depAll_of fun x hx => (h x hx).2)⟩
theorem okE_ints (ns : List Int) (n : Nat) : ∀ x ∈ ns.map Dat.int, okE n x := fun x hx => by
  obtain ⟨i, _, rfl⟩ := List.mem_map.mp hx
  exact okE_int i n
def kEqD (n : Bool) : Dat → Dat → (Dat → Prop) → Prop := fun d e P => okE 64 d ∧ okE 64 e ∧ ∀ b : Bool, (b = true ↔ d = e) → P (.bl (if n then !b else b))
theorem Pk.dp {W : Wd} {F : Addr → Prop} {H : Hp} {v : V} {d : Dat} (r : Pk W F H v d) (h : layD d = true) : Dp W.K H v (pyD d) := by
  cases r with
  | rv r => exact lay_dp r h
  | own hA _ r => exact .lst (SqL.of hA) (layAll_dp r h)
theorem rok_eqD {W : Wd} : ROk W Pk Pk Rv (rEqD W.K) (kEqD false) := fun F H x y d e Q P ok r1 r2 ⟨h1, h2, q⟩ k =>
  ⟨_, _, r1.dp h1.1, r2.dp h2.1, okE_sh h1, okE_sh h2, k _ F H _ (q _ (lay_eqv d e h1.1 h2.1)) (.refl ok) (.bl _)⟩
theorem rok_neD {W : Wd} : ROk W Pk Pk Rv (rNeD W.K) (kEqD true) := fun F H x y d e Q P ok r1 r2 ⟨h1, h2, q⟩ k =>
  ⟨_, _, r1.dp h1.1, r2.dp h2.1, okE_sh h1, okE_sh h2, k _ F H _ (q _ (lay_eqv d e h1.1 h2.1)) (.refl ok) (.bl _)⟩
/-! ### objects that are made -/
abbrev ASpI := List Dat → (List Dat → Prop) → Prop
def toSpI (K : PySem.W.Frag) (ca : Nat → Addr) (c : Nat) (asp : ASpI) : Sp := fun vs H Q _ => ∃ (po : Option (Addr × Addr)) (F : Addr → Prop) (H1 : Hp) (x dx : Addr) (ws : List V) (ds : List Dat) (P : List Dat → Prop),
  vs = .ref x :: ws ∧ H = upd (upd H1 dx (.own x)) x (.ins (ca c) dx []) ∧ H1 x = none ∧ H1 dx = none ∧ dx ≠ x ∧ Okk ⟨K, ca, po⟩ F H1 ∧ RvAll ⟨K, ca, po⟩ F H1 ws ds ∧ asp ds P ∧
  ∀ fs F' H', P fs → Ext ⟨K, ca, po⟩ F H1 F' H' → Rv ⟨K, ca, po⟩ F' H' (.ref x) (.obj c fs) → Q .non H'
def aMake (c : Nat) (asp : ASpI) (aa : AFr) : AEx := fun env P => aa env fun ds => asp ds fun fs => P (.obj c fs)
theorem a_make {K : PySem.W.Frag} {ca : Nat → Addr} {po : Option (Addr × Addr)} {H0 : Hp} {n c : Nat} {E : XK} {t : TA} {aa : AFr} {asp : ASpI} (h : AArg ⟨K, ca, po⟩ H0 n t aa) :
    AExp ⟨K, ca, po⟩ H0 (tMake (ca c) (toSpI K ca c asp) [] E t) (aMake c asp aa) := ⟨fun σ env F H Q P ok m q k => h.run σ env F H _ _ ok m q fun ds F1 H1 vs p1 x1 r1 _ => by
  intro x dx hx hdx hne
  rw [List.append_nil]
  exact ⟨po, F1, H1, x, dx, vs, ds, _, rfl, rfl, hx, hdx, hne, x1.ok, r1, p1, fun fs F' H' p e r => ⟨rfl, k _ F' H' _ p (x1.trans ok e) r⟩⟩⟩
/-- the statements of an __init__: self.f = e, one for each attribute, in order; k of them are done -/
structure AIni (W : Wd) (c : Nat) (k : Nat) (ts : TS) (ai : List Sl → (List Dat → Prop) → Prop) : Prop where
  run : ∀ (H1 : Hp) (x dx : Addr) (σ : L2.St) (env : List Sl) (F1 F : Addr → Prop) (H : Hp) (fs : List (Str × V)) (ds : List Dat) (De : Ends) (P : List Dat → Prop), H1 x = none → Okk W F1 H1 → Ext W F1 H1 F H → ¬ F x → H x = some (.ins (W.ca c) dx fs) → fs.length ≤ k → RvFs W F H fs ((clsN c).take k) ds →
    (∀ m, m ∉ (clsN c).take k → fs.lookup m = none) → Mt W H1 F H σ env → σ[0]? = some (some (.ref x)) → ai env P →
    (∀ es F' H' σ', P es → Ext W F1 H1 F' H' → Rv W F' H' (.ref x) (.obj c (ds ++ es)) → De.nx σ' H') → ts De σ H
def iNil : List Sl → (List Dat → Prop) → Prop := fun _ P => P []
def iCons (ea : AEx) (ai : List Sl → (List Dat → Prop) → Prop) : List Sl → (List Dat → Prop) → Prop := fun env P => ea env fun d => ai env fun es => P (d :: es)
theorem putF_len (f : Str) (v : V) : ∀ fs : List (Str × V), (putF f v fs).length ≤ fs.length + 1
  | [] => Nat.le_refl _
  | (g, x) :: r => by
    show (if g = f then (g, v) :: r else (g, x) :: putF f v r).length ≤ _
    by_cases h : g = f
    · rw [if_pos h]
      exact Nat.le_succ _
    · rw [if_neg h]
      exact Nat.succ_le_succ (putF_len f v r)
theorem RvFs.len {W : Wd} {F : Addr → Prop} {H : Hp} : ∀ {fs : List (Str × V)} {ks : List Str} {ds : List Dat}, RvFs W F H fs ks ds → ks.length = ds.length
  | _, _, _, .nil => rfl
  | _, _, _, .cons _ _ r => congrArg (· + 1) r.len
theorem RvFs.put {W : Wd} {F : Addr → Prop} {H : Hp} {f : Str} {v : V} : ∀ {fs : List (Str × V)} {ks : List Str} {ds : List Dat}, RvFs W F H fs ks ds → f ∉ ks → RvFs W F H (putF f v fs) ks ds
  | _, _, _, .nil, _ => .nil
  | _, k :: ks, _, .cons e a r, h => .cons (by rw [lookup_putF, if_neg (fun z => h (by rw [z]; exact List.mem_cons_self))]; exact e) a (r.put fun z => h (List.mem_cons_of_mem _ z))
theorem RvFs.snoc {W : Wd} {F : Addr → Prop} {H : Hp} {f : Str} {v : V} {d : Dat} {fs : List (Str × V)} (e : fs.lookup f = some v) (a : Rv W F H v d) : ∀ {ks : List Str} {ds : List Dat}, RvFs W F H fs ks ds → RvFs W F H fs (ks ++ [f]) (ds ++ [d])
  | _, _, .nil => .cons e a .nil
  | _, _, .cons e1 a1 r => .cons e1 a1 (r.snoc e a)
theorem i_nil {W : Wd} {c : Nat} : AIni W c (clsN c).length tNext iNil := ⟨fun H1 x dx σ env F1 F H fs ds De P hx ok1 b nf hX ln r no m s0 q k => by
  rw [List.take_length] at r no
  have b2 : Ext W F1 H1 (fun a => F a ∨ a = x) H := b.fz ok1 hx hX
  refine k [] _ H σ q b2 ?_
  rw [List.append_nil]
  exact .obj (.inr rfl) hX (r.sub (sub_fz x)) no⟩
theorem i_cons {W : Wd} {c k : Nat} {te : TE} {ea : AEx} {f : Str} {ts : TS} {ai : List Sl → (List Dat → Prop) → Prop} (cl : Cls W.K (W.ca c)) (na : NoAttr W.K (W.ca c) f) (hf : (clsN c)[k]? = some f) (nd : f ∉ (clsN c).take k) (hk : k < 900) (he : ∀ H0, AExp W H0 te ea) (h2 : AIni W c (k + 1) ts ai) :
    AIni W c k (tSeq (sFld W.K (tVar 0) te f) ts) (iCons ea ai) := ⟨fun H1 x dx σ env F1 F H fs ds De P hx ok1 b nf hX ln r no m s0 q kk => by
  refine (he H1).run σ env F H _ _ b.ok m q fun d F' H' v p x1 rv => ?_
  have hX' : H' x = some (.ins (W.ca c) dx fs) := x1.kp x _ hX fun p c e => (ok1.pne hx p c e).1
  have nf' : ¬ F' x := fun f => by
    rcases x1.dn x f with z | z
    · exact nf z
    · rw [z] at hX
      cases hX
  refine ⟨.ref x, s0, x, W.ca c, dx, fs, rfl, hX', cl, na, by omega, ?_⟩
  have sb : Sub F' H' F' (upd H' x (.ins (W.ca c) dx (putF f v fs))) := fun a f => ⟨f, upd_ne (fun z => nf' (by rw [← z]; exact f))⟩
  have b' := b.trans ok1 x1
  have np := ok1.pne hx
  have b2 : Ext W F1 H1 F' (upd H' x (.ins (W.ca c) dx (putF f v fs))) := ⟨b'.up, b'.dn, fun a o ha npa => by
    rw [upd_ne (ne_of_none ha hx)]
    exact b'.kp a o ha npa, ⟨fun a f => by
    rw [(sb a f).2]
    exact x1.ok.tr a f, fun p c e => by
    obtain ⟨h1, h2, h3⟩ := x1.ok.po p c e
    exact ⟨h1.mut (np p c e).1 (np p c e).2, h2, h3⟩⟩⟩
  have tk : (clsN c).take (k + 1) = (clsN c).take k ++ [f] := by rw [List.take_add_one, hf]; rfl
  have m' := m.ext b.ok x1
  have lk : (putF f v fs).lookup f = some v := by rw [lookup_putF, if_pos rfl]
  have ll : (putF f v fs).length ≤ k + 1 := by
    have := putF_len f v fs
    omega
  refine h2.run H1 x dx σ env F1 F' _ (putF f v fs) (ds ++ [d]) De _ hx ok1 b2 nf' upd_same ll ?_ (fun mm hm => ?_) ?_ s0 p fun es F2 H2 σ2 pe e2 r2 => ?_
  · rw [tk]
    exact (((r.sub (x1.sub b.ok)).put nd).snoc lk rv).sub sb
  · rw [tk] at hm
    rw [lookup_putF, if_neg (fun z => hm (by rw [z]; exact List.mem_append.mpr (.inr List.mem_cons_self)))]
    exact no mm fun z => hm (List.mem_append.mpr (.inl z))
  · refine ⟨m'.ln, fun i s e => ?_, m'.own⟩
    obtain ⟨ov, eo, so⟩ := m'.at_ i s e
    refine ⟨ov, eo, ?_⟩
    cases s with
    | u => trivial
    | d y =>
      obtain ⟨w, ew, rw_⟩ := so
      exact ⟨w, ew, rw_.sub sb⟩
    | o us =>
      obtain ⟨a, vs, ea, nfa, n0a, ha, ra, npa⟩ := so
      have hax : a ≠ x := fun z => by
        rw [z, hX'] at ha
        cases ha
      exact ⟨a, vs, ea, nfa, n0a, by rw [upd_ne hax]; exact ha, ra.sub sb, npa⟩
  · rw [List.append_assoc] at r2
    exact kk (d :: es) F2 H2 σ2 pe e2 r2⟩

/-! ### how readings over data are gone through -/
theorem twoI {b : Bool} {p q : Prop} (h1 : b = true → p) (h2 : b = false → q) : two b p q := by
  cases b with
  | true => exact h1 rfl
  | false => exact h2 rfl
theorem twoD {c p q : Prop} [Decidable c] (h1 : c → p) (h2 : ¬ c → q) : two (decide c) p q := twoI (fun h => h1 (of_decide_eq_true h)) (fun h => h2 (of_decide_eq_false h))
theorem twoN {c p q : Prop} [Decidable c] (h1 : ¬ c → p) (h2 : c → q) : two (!decide c) p q := by
  by_cases h : c
  · rw [decide_eq_true h]
    exact h2 h
  · rw [decide_eq_false h]
    exact h1 h
theorem twoY {b : Bool} {p q : Prop} (h : b = true) (k : p) : two b p q := by
  subst h
  exact k
theorem twoZ {b : Bool} {p q : Prop} (h : b = false) (k : q) : two b p q := by
  subst h
  exact k
theorem lcA_rel {el : Dat → (Option Dat → Prop) → Prop} {P : List Dat → Prop} (R : Dat → Dat → Prop) : ∀ (ds acc : List Dat), (∀ d ∈ ds, ∀ Q : Option Dat → Prop, (∀ y, R d y → Q (some y)) → el d Q) → (∀ ys, Paired R ds ys → P (acc ++ ys)) → lcA el P ds acc
  | [], acc, _, k => by
    have := k [] .nil
    rwa [List.append_nil] at this
  | d :: ds, acc, h, k => h d List.mem_cons_self _ fun y r => by
    show lcA el P ds (acc ++ [y])
    refine lcA_rel R ds (acc ++ [y]) (fun e he => h e (List.mem_cons_of_mem _ he)) fun ys p => ?_
    rw [List.append_assoc]
    exact k (y :: ys) (.cons r p)
theorem lcA_map {el : Dat → (Option Dat → Prop) → Prop} {P : List Dat → Prop} (f : Dat → Dat) : ∀ (ds acc : List Dat), (∀ d ∈ ds, ∀ Q : Option Dat → Prop, Q (some (f d)) → el d Q) → P (acc ++ ds.map f) → lcA el P ds acc
  | [], acc, _, k => by
    rw [List.map_nil, List.append_nil] at k
    exact k
  | d :: ds, acc, h, k => h d List.mem_cons_self _ (by
    show lcA el P ds (acc ++ [f d])
    refine lcA_map f ds (acc ++ [f d]) (fun e he => h e (List.mem_cons_of_mem _ he)) ?_
    rw [List.append_assoc]
    exact k)
theorem lcA_fm {el : Dat → (Option Dat → Prop) → Prop} {P : List Dat → Prop} (f : Dat → Option Dat) : ∀ (ds acc : List Dat), (∀ d ∈ ds, ∀ Q : Option Dat → Prop, Q (f d) → el d Q) → P (acc ++ ds.filterMap f) → lcA el P ds acc
  | [], acc, _, k => by
    rw [List.filterMap_nil, List.append_nil] at k
    exact k
  | d :: ds, acc, h, k => h d List.mem_cons_self _ (by
    rw [List.filterMap_cons] at k
    cases e : f d with
    | none =>
      rw [e] at k
      exact lcA_fm f ds acc (fun e he => h e (List.mem_cons_of_mem _ he)) k
    | some y =>
      rw [e] at k
      show lcA el P ds (acc ++ [y])
      refine lcA_fm f ds (acc ++ [y]) (fun e he => h e (List.mem_cons_of_mem _ he)) ?_
      rw [List.append_assoc]
      exact k)
/-- a loop, by what holds between its turns -/
theorem forA_inv {g : ATg} {b : ASt} {D : AEnds} {ds : List Dat} {env : List Sl} (W : Nat → List Sl → Prop) (h0 : W 0 env)
    (hs : ∀ (i : Nat) (d : Dat) (env : List Sl), ds[i]? = some d → W i env → ∀ N : List Sl → Prop, (∀ env', W (i + 1) env' → N env') → g d env fun env2 => b { D with nx := N, ct := N, bk := D.nx } env2)
    (hd : ∀ env, W ds.length env → D.nx env) : forA g b D ds env := by
  have go : ∀ (n i : Nat) (env : List Sl), n + i = ds.length → W i env → forA g b D (ds.drop i) env := by
    intro n
    induction n with
    | zero =>
      intro i env e w
      have : i = ds.length := by omega
      subst this
      rw [List.drop_length]
      exact hd env w
    | succ n ih =>
      intro i env e w
      have hl : i < ds.length := by omega
      rw [List.drop_eq_getElem_cons hl]
      exact hs i _ env (List.getElem?_eq_getElem hl) w (forA g b D (ds.drop (i + 1))) fun env' w' => ih (i + 1) env' (by omega) w'
  exact go ds.length 0 env (by omega) h0
/-- .. over a range -/
theorem forA_ran {g : ATg} {b : ASt} {D : AEnds} {n : Nat} {lo : Int} {env : List Sl} (W : Nat → List Sl → Prop) (h0 : W 0 env)
    (hs : ∀ (i : Nat) (env : List Sl), i < n → W i env → ∀ N : List Sl → Prop, (∀ env', W (i + 1) env' → N env') → g (.int (lo + i)) env fun env2 => b { D with nx := N, ct := N, bk := D.nx } env2)
    (hd : ∀ env, W n env → D.nx env) : forA g b D ((List.range n).map fun i => Dat.int (lo + (i : Nat))) env := by
  refine forA_inv W h0 (fun i d env e w N hN => ?_) (fun env w => hd env (by rw [List.length_map, List.length_range] at w; exact w))
  rw [List.getElem?_map] at e
  cases h : (List.range n)[i]? with
  | none =>
    rw [h] at e
    cases e
  | some j =>
    rw [h] at e
    obtain ⟨hl, e1⟩ := List.getElem?_eq_some_iff.mp h
    rw [List.getElem_range] at e1
    subst e1
    rw [List.length_range] at hl
    cases e
    exact hs i env hl w N hN
theorem sp_ex {κ : Type} {K : PySem.W.Frag} {ca : Nat → Addr} {a : κ → ASp} {vs : List V} {H : Hp} {Q : VK} {E : XK} (h : toSp K ca (fun ds P => ∃ k, a k ds P) vs H Q E) : ∃ k, toSp K ca (a k) vs H Q E := by
  obtain ⟨po, F, ds, P, ok, r, ⟨k, q⟩, z⟩ := h
  exact ⟨k, po, F, ds, P, ok, r, q, z⟩
theorem forA_map {α : Type} {f : α → Dat} {xs : List α} {g : ATg} {b : ASt} {D : AEnds} {env : List Sl} (W : Nat → List Sl → Prop) (h0 : W 0 env)
    (hs : ∀ (i : Nat) (x : α) (env : List Sl), xs[i]? = some x → W i env → ∀ N : List Sl → Prop, (∀ env', W (i + 1) env' → N env') → g (f x) env fun env2 => b { D with nx := N, ct := N, bk := D.nx } env2)
    (hd : ∀ env, W xs.length env → D.nx env) : forA g b D (xs.map f) env := by
  refine forA_inv W h0 (fun i d env e w N hN => ?_) (fun env w => hd env (by rw [List.length_map] at w; exact w))
  rw [List.getElem?_map] at e
  cases h : xs[i]? with
  | none =>
    rw [h] at e
    cases e
  | some x =>
    rw [h] at e
    cases e
    exact hs i x env h w N hN
theorem lcA_mapL {α : Type} {f : α → Dat} {xs : List α} {el : Dat → (Option Dat → Prop) → Prop} {P : List Dat → Prop} (g : α → Dat) (h : ∀ x ∈ xs, ∀ Q : Option Dat → Prop, Q (some (g x)) → el (f x) Q) (k : P (xs.map g)) : lcA el P (xs.map f) [] := by
  have gen : ∀ (ys : List α) (acc : List Dat), (∀ x ∈ ys, ∀ Q : Option Dat → Prop, Q (some (g x)) → el (f x) Q) → P (acc ++ ys.map g) → lcA el P (ys.map f) acc := by
    intro ys
    induction ys with
    | nil =>
      intro acc _ k
      rw [List.map_nil, List.append_nil] at k
      exact k
    | cons y ys ih =>
      intro acc h k
      refine h y List.mem_cons_self _ ?_
      show lcA el P (ys.map f) (acc ++ [g y])
      refine ih _ (fun x hx => h x (List.mem_cons_of_mem _ hx)) ?_
      rw [List.append_assoc]
      exact k
  exact gen xs [] h k
theorem lcA_relL {α : Type} {f : α → Dat} {xs : List α} {el : Dat → (Option Dat → Prop) → Prop} {P : List Dat → Prop} (R : α → Dat → Prop) (h : ∀ x ∈ xs, ∀ Q : Option Dat → Prop, (∀ y, R x y → Q (some y)) → el (f x) Q) (k : ∀ ys, Paired R xs ys → P ys) : lcA el P (xs.map f) [] := by
  have gen : ∀ (zs : List α) (acc : List Dat), (∀ x ∈ zs, ∀ Q : Option Dat → Prop, (∀ y, R x y → Q (some y)) → el (f x) Q) → (∀ ys, Paired R zs ys → P (acc ++ ys)) → lcA el P (zs.map f) acc := by
    intro zs
    induction zs with
    | nil =>
      intro acc _ k
      have := k [] .nil
      rw [List.append_nil] at this
      exact this
    | cons z zs ih =>
      intro acc h k
      refine h z List.mem_cons_self _ fun y r => ?_
      show lcA el P (zs.map f) (acc ++ [y])
      refine ih _ (fun x hx => h x (List.mem_cons_of_mem _ hx)) fun ys p => ?_
      rw [List.append_assoc]
      exact k (y :: ys) (.cons r p)
  exact gen xs [] h k
theorem paired_ints {α : Type} {xs : List α} {ys : List Dat} {R : α → Int → Prop} (h : Paired (fun x y => ∃ n, y = Dat.int n ∧ R x n) xs ys) : ∃ ns : List Int, ys = ns.map Dat.int ∧ ns.length = xs.length ∧ Paired R xs ns := by
  induction h with
  | nil => exact ⟨[], rfl, rfl, .nil⟩
  | cons r _ ih =>
    obtain ⟨n, rfl, r⟩ := r
    obtain ⟨ns, rfl, l, p⟩ := ih
    exact ⟨n :: ns, rfl, congrArg (· + 1) l, .cons r p⟩
theorem paired_mem {α β : Type} {R : α → β → Prop} : ∀ {xs : List α} {ys : List β}, Paired R xs ys → ∀ y ∈ ys, ∃ x ∈ xs, R x y
  | _, _, .nil, _, h => by cases h
  | _, _, .cons r p, y, h => by
    rcases List.mem_cons.mp h with rfl | h
    · exact ⟨_, List.mem_cons_self, r⟩
    · obtain ⟨x, hx, q⟩ := paired_mem p y h
      exact ⟨x, List.mem_cons_of_mem _ hx, q⟩

/-! ### promises over data of the parts that stand -/
theorem fn_weak {P : Program} {w : World} {K : PySem.W.Frag} {mg : Str → Option Value} {base : Heap} {CX : CXT} {k : Nat} {f : Addr} {fd : FuncData} {ps : List Str} {sp sp' : Sp} (h : ∀ vs H Q E, sp' vs H Q E → sp vs H Q E) (F : FnOk P w K mg base CX k f fd ps sp) : FnOk P w K mg base CX k f fd ps sp' := by
  obtain ⟨a, b⟩ := F
  exact ⟨fun vs H Q E z => a vs H Q E (h vs H Q E z), fun i1 i2 i3 i4 i5 i6 i7 i8 i9 i10 i11 i12 i13 z => b i1 i2 i3 i4 i5 i6 i7 i8 i9 i10 i11 i12 i13 (h _ _ _ _ z)⟩
theorem ext_same {W : Wd} {F : Addr → Prop} {H H' : Hp} (k : Okk W F H) (s : Same H H') : Ext W F H F H' :=
  ⟨fun _ f => f, fun _ f => .inl f, fun a o e _ => s a o e, ⟨fun a f => (by
    cases e : H a with
    | none => exact absurd e (k.tr a f)
    | some o =>
      rw [s a o e]
      exact fun z => (by cases z)), fun p c e => ⟨(k.po p c e).1.same s, (k.po p c e).2⟩⟩⟩
/-- a Group, as data -/
def grpD (p q : Int) (bs : List Int) : Dat := .obj 0 [.int p, .int q, .tup (bs.map .int)]
/-- the group of a law -/
def lgD (p q : Int) (bs : List Int) : Dat := .tup [.int p, .int q, .lst (bs.map .int)]

/-! ### more readings: dicts of a zip, == of objects, isinstance, index, reverse -/
theorem valV_no {k : Key} : ∀ {kvs : List (Key × V)}, k ∉ kvs.map (·.1) → valV kvs k = none
  | [], _ => rfl
  | p :: r, h => by
    rw [List.map_cons, List.mem_cons, not_or] at h
    rw [valV_neg (fun z => h.1 z.symm)]
    exact valV_no h.2
theorem mergeK_new : ∀ (more acc : List (Key × V)), ((acc ++ more).map (·.1)).Nodup → mergeK acc more = acc ++ more
  | [], acc, _ => (List.append_nil acc).symm
  | kv :: more, acc, h => by
    show mergeK (putK acc kv.1 kv.2) more = _
    have h1 : kv.1 ∉ acc.map (·.1) := fun z => by
      rw [List.map_append, List.nodup_append] at h
      exact h.2.2 _ z _ (List.mem_map.mpr ⟨kv, List.mem_cons_self, rfl⟩) rfl
    rw [putK_new _ (valV_no h1)]
    have e : acc ++ [(kv.1, kv.2)] ++ more = acc ++ kv :: more := by rw [List.append_assoc]; rfl
    rw [mergeK_new more _ (by rw [e]; exact h), e]
def dgetD (kds : List (Key × Dat)) (k : Key) : Option Dat := (kds.find? fun kd => decide (kd.1 = k)).map (·.2)
theorem RvKv.dget {W : Wd} {F : Addr → Prop} {H : Hp} {k : Key} {d : Dat} : ∀ {kvs : List (Key × V)} {kds : List (Key × Dat)}, RvKv W F H kvs kds → dgetD kds k = some d → ∃ v, valV kvs k = some v ∧ Rv W F H v d
  | _, _, .nil, e => by cases e
  | _, _, .cons (k := k') (v := v) (kvs := kvs) (d := d') (kds := kds) a r, e => by
    by_cases h : k' = k
    · have e' : dgetD ((k', d') :: kds) k = some d' := by simp [dgetD, List.find?_cons, h]
      rw [e'] at e
      cases e
      exact ⟨v, valV_pos (p := (k', v)) h, a⟩
    · have e' : dgetD ((k', d') :: kds) k = dgetD kds k := by simp [dgetD, List.find?_cons, h]
      rw [e'] at e
      rw [valV_neg (p := (k', v)) h]
      exact r.dget e
theorem RvKv.zip {W : Wd} {F : Addr → Prop} {H : Hp} : ∀ {ks : List Key} {vs : List V} {ds : List Dat}, RvAll W F H vs ds → RvKv W F H (ks.zip vs) (ks.zip ds)
  | [], _, _, _ => .nil
  | _ :: _, _, _, .nil => .nil
  | _ :: _, _, _, .cons a r => .cons a (RvKv.zip r)
theorem kv_strs : ∀ ss : List Str, (ss.map (Sum.inr : Str → Key)).map kV = ss.map V.str
  | [] => rfl
  | s :: ss => congrArg (V.str s :: ·) (kv_strs ss)
section
variable {W : Wd} {H0 : Hp} {te ta tb : TE} {ae ea eb : AEx}
def aDictZip (k1 k2 : Bool) (aa : AFr) : AEx := fun env P => aa env fun ds => match ds with
  | [x, y] => kQ k1 x fun xs => kQ k2 y fun ys => ∃ ss : List Str, xs = ss.map Dat.str ∧ ss.Nodup ∧ P (.dK ((ss.map (Sum.inr : Str → Key)).zip ys))
  | _ => False
theorem a_dictZip {k1 k2 : Bool} {t : TA} {aa : AFr} (h : AArg W H0 2 t aa) : AExp W H0 (tDictZip k1 k2 W.K t) (aDictZip k1 k2 aa) := ⟨fun σ env F H R P ok m q kk => h.run σ env F H _ _ ok m q fun ds F1 H1 vs p1 x1 r1 l1 => by
  match ds, l1, p1, r1 with
  | [d, e], _, p1, .cons r1 (.cons r2 .nil) =>
    have p1 : kQ k1 d fun xs => kQ k2 e fun ys => ∃ ss : List Str, xs = ss.map Dat.str ∧ ss.Nodup ∧ P (.dK ((ss.map (Sum.inr : Str → Key)).zip ys)) := p1
    obtain ⟨a, us, xs, rfl, ha, ra, p1⟩ := kQ_rv r1 p1
    obtain ⟨b, ws, ys, rfl, hb, rb, ss, rfl, nd, p1⟩ := kQ_rv r2 p1
    have eu := ra.strs
    subst eu
    have qa := kQ_sub ha (Sub.refl _ _)
    have qb := kQ_sub hb (Sub.refl _ _)
    refine ⟨a, b, ss.map Sum.inr, ws, rfl, by rw [kv_strs]; exact qa, qb, fun p hp => ?_⟩
    rw [mergeK_new _ [] (by
      rw [List.nil_append]
      have e : ∀ (ks : List Key) (ws : List V), ∃ n, (ks.zip ws).map (·.1) = ks.take n := by
        intro ks
        induction ks with
        | nil => exact fun ws => ⟨0, rfl⟩
        | cons k ks ih =>
          intro ws
          cases ws with
          | nil => exact ⟨0, rfl⟩
          | cons w ws =>
            obtain ⟨n, hn⟩ := ih ws
            refine ⟨n + 1, ?_⟩
            show k :: (ks.zip ws).map (·.1) = k :: ks.take n
            rw [hn]
      obtain ⟨n, hn⟩ := e (ss.map Sum.inr) ws
      rw [hn]
      refine List.Pairwise.sublist (List.take_sublist _ _) ?_
      exact List.Pairwise.map _ (fun a b h z => h (Sum.inr.inj z)) nd), List.nil_append]
    have x2 : Ext W F1 H1 (fun c => F1 c ∨ c = p) (upd H1 p (.dK ((ss.map Sum.inr).zip ws))) := Ext.new x1.ok hp
    exact kk _ _ _ _ p1 (x1.trans ok x2) (.dK (.inr rfl) upd_same ((RvKv.zip rb).sub (x2.sub x1.ok)))⟩
def kDget : Dat → Dat → (Dat → Prop) → Prop
  | .dK kds, .str s, P => oQ (dgetD kds (.inr s)) P
  | .dK kds, .int i, P => oQ (dgetD kds (.inl i)) P
  | _, _, _ => False
theorem a_dget (ha : AExp W H0 ta ea) (hb : AExp W H0 tb eb) : AExp W H0 (tDGet ta tb) (a2 kDget ea eb) := ⟨fun σ env F H Q P ok m q k => ha.run σ env F H _ _ ok m q fun d F1 H1 v p1 x1 r1 => hb.run σ env F1 H1 _ _ x1.ok (m.ext ok x1) p1 fun e F2 H2 u p2 x2 r2 => by
  have r1' := r1.sub (x2.sub x1.ok)
  cases r1' with
  | @dK a kvs kds fa hA rr =>
    cases r2 with
    | str s =>
      have p2 : oQ (dgetD kds (.inr s)) P := p2
      cases g : dgetD kds (.inr s) with
      | none =>
        rw [g] at p2
        exact p2.elim
      | some z =>
        rw [g] at p2
        obtain ⟨w, e1, rw_⟩ := rr.dget g
        exact ⟨a, w, rfl, by rw [← e1]; exact DGet.k (k := .inr s) hA, k z F2 H2 w p2 (x1.trans ok x2) rw_⟩
    | int i =>
      have p2 : oQ (dgetD kds (.inl i)) P := p2
      cases g : dgetD kds (.inl i) with
      | none =>
        rw [g] at p2
        exact p2.elim
      | some z =>
        rw [g] at p2
        obtain ⟨w, e1, rw_⟩ := rr.dget g
        exact ⟨a, w, rfl, by rw [← e1]; exact DGet.k (k := .inl i) hA, k z F2 H2 w p2 (x1.trans ok x2) rw_⟩
    | _ => exact p2.elim
  | _ => exact p2.elim⟩
/-! isinstance -/
/-- what isinstance asks of a class of the text -/
structure IsiC (K : PySem.W.Frag) (C : Addr) : Prop where
  cl : Cls K C
  ha : PySem.W.findIn K (.ref C) "__class__" = some (some (.builtin "object.__class__"))
  hn : PySem.W.specialIn K (.builtin "object.__class__") "__get__" = some (some (.builtin "getset_descriptor.__get__"))
  ht : PySem.W.takesIn K (.builtin "object.__class__") = some true
  hm : PySem.W.mroIn K C (.type "object") = some true
def kIsO (c : Nat) : Dat → (Dat → Prop) → Prop
  | .obj c' _, P => c' = c ∧ P (.bl true)
  | _, _ => False
theorem kit_selfA {K : PySem.W.Frag} {S : Addr} : PySem.W.kitOne K (.ref S) (.ref S) = some true := by
  unfold PySem.W.kitOne
  rw [show (Value.ref S == Value.ref S) = true from beq_self_eq_true (Value.ref S)]
  rfl
theorem a_isO {c : Nat} (T : IsiC W.K (W.ca c)) (ha : AExp W H0 ta ea) : AExp W H0 (tCB (rIsi W.K) (tCons ta (tCons (tC (.ref (W.ca c))) tNil))) (a1 (kIsO c) ea) := ⟨fun σ env F H Q P ok m q k => ha.run σ env F H _ _ ok m q fun d F1 H1 v p1 x1 r1 => by
  cases r1 with
  | @obj a dx c' fs ds fa hA rf no =>
    obtain ⟨rfl, p1⟩ := p1
    exact ⟨_, _, _, _, true, rfl, .own _, .base (.ins hA T.cl T.ha T.hn T.ht T.hm), kit_selfA, k _ F1 H1 _ p1 x1 (.bl true)⟩
  | _ => exact p1.elim⟩
def tyD : Dat → String
  | .non => "NoneType"
  | .bl _ => "bool"
  | .int _ => "int"
  | .str _ => "str"
  | .lst _ => "list"
  | .tup _ => "tuple"
  | .pool => "list"
  | .dK _ => "dict"
  | .obj _ _ => ""
  | .cell _ => ""
/-- isinstance(x, T), T one of int, bool, str, list, tuple -/
def kIsT (T : String) : Dat → (Dat → Prop) → Prop := fun d P => match d with
  | .obj _ _ => False
  | .pool => False
  | .dK _ => False
  | .cell _ => False
  | d => P (.bl (decide (tyD d = T) || (decide (tyD d = "bool") && decide (T = "int"))))
theorem kitB_all : ∀ n ∈ ["NoneType", "bool", "int", "str", "list", "tuple"], ∀ T ∈ ["int", "bool", "str", "list", "tuple"], kitB n T = some (decide (n = T) || (decide (n = "bool") && decide (T = "int"))) := by decide +kernel
theorem a_isT {T : String} (hT : T ∈ ["int", "bool", "str", "list", "tuple"] := by decide) (ha : AExp W H0 ta ea) : AExp W H0 (tCB (rIsi W.K) (tCons ta (tCons (tC (.ty T)) tNil))) (a1 (kIsT T) ea) := ⟨fun σ env F H Q P ok m q k => ha.run σ env F H _ _ ok m q fun d F1 H1 v p1 x1 r1 => by
  cases r1 with
  | non => exact ⟨_, _, _, _, _, rfl, .ty _, .base .non, kit_ty (kitB_all "NoneType" (by decide) T hT), k _ F1 H1 _ p1 x1 (.bl _)⟩
  | bl b => exact ⟨_, _, _, _, _, rfl, .ty _, .base (.bl b), kit_ty (kitB_all "bool" (by decide) T hT), k _ F1 H1 _ p1 x1 (.bl _)⟩
  | int b => exact ⟨_, _, _, _, _, rfl, .ty _, .base (.int b), kit_ty (kitB_all "int" (by decide) T hT), k _ F1 H1 _ p1 x1 (.bl _)⟩
  | str b => exact ⟨_, _, _, _, _, rfl, .ty _, .base (.str b), kit_ty (kitB_all "str" (by decide) T hT), k _ F1 H1 _ p1 x1 (.bl _)⟩
  | lst f h r => exact ⟨_, _, _, _, _, rfl, .ty _, .base (.lst h), kit_ty (kitB_all "list" (by decide) T hT), k _ F1 H1 _ p1 x1 (.bl _)⟩
  | tup h r =>
    obtain ⟨fa, o, ho, ob, hd, rfl⟩ := h
    exact ⟨_, _, _, _, _, rfl, .ty _, .fTuple ho, kit_ty (kitB_all "tuple" (by decide) T hT), k _ F1 H1 _ p1 x1 (.bl _)⟩
  | _ => exact p1.elim⟩
/-! x == y of two objects of one class, by the promise of its own __eq__ -/
def kEqO (c : Nat) (asp : ASp) : Dat → Dat → (Dat → Prop) → Prop := fun x y P => (match x, y with
  | .obj c1 _, .obj c2 _ => c1 = c ∧ c2 = c
  | _, _ => False) ∧ asp [x, y] fun d => ∃ b, d = .bl b ∧ P (.bl b)
theorem rok_eqO {K : PySem.W.Frag} {ca : Nat → Addr} {po : Option (Addr × Addr)} {c : Nat} {asp : ASp} {E : XK} : ROk ⟨K, ca, po⟩ Rv Rv Rv (rEqO (ca c) (toSp K ca asp) E) (kEqO c asp) := fun F H x y d e Q P ok r1 r2 q k => by
  obtain ⟨q0, q⟩ := q
  cases r1 with
  | obj f1 h1 rf1 n1 =>
    cases r2 with
    | obj f2 h2 rf2 n2 =>
      obtain ⟨rfl, rfl⟩ := q0
      exact ⟨_, _, _, _, _, _, rfl, rfl, h1, h2, po, F, _, _, ok, .cons (.obj f1 h1 rf1 n1) (.cons (.obj f2 h2 rf2 n2) .nil), q, fun d F' H' v ⟨b, hb, p⟩ x r => by
        subst hb
        cases r
        exact ⟨⟨b, rfl⟩, k _ F' H' _ p x (.bl b)⟩⟩
    | _ => exact q0.elim
  | _ => exact q0.elim
/-! index -/
def aIndexT (ea eb : AEx) : AEx := fun env P => ea env fun x => tQ x fun xs => eb env fun y => match y with
  | .str z => ∃ (ss : List Str) (j : Nat), xs = ss.map Dat.str ∧ ss[j]? = some z ∧ (∀ m, m < j → ss[m]? ≠ some z) ∧ P (.int (j : Nat))
  | _ => False
theorem a_indexT (ha : AExp W H0 ta ea) (hb : AExp W H0 tb eb) : AExp W H0 (tTM W.K (rTIndex W.K) ta (tCons tb tNil)) (aIndexT ea eb) := ⟨fun σ env F H Q P ok m q k => ha.run σ env F H _ _ ok m q fun d F1 H1 v p1 x1 r1 => by
  cases r1 with
  | @tup a vs _ hA rr =>
    obtain ⟨fa, o, ho, tp⟩ := hA
    refine ⟨⟨a, o, vs, rfl, ho, tp⟩, hb.run σ env F1 H1 _ _ x1.ok (m.ext ok x1) p1 fun e F2 H2 u p2 x2 r2 => ?_⟩
    have h2 : FzT W F1 H1 a vs := ⟨fa, o, ho, tp⟩
    cases r2 with
    | str z =>
      obtain ⟨ss, j, rfl, h3, h4, p2⟩ := p2
      have e := rr.strs
      subst e
      exact ⟨a, ss, z, j, rfl, rfl, (h2.sub (x2.sub x1.ok)).sq, h3, h4, k _ F2 H2 _ p2 (x1.trans ok x2) (.int _)⟩
    | _ => exact p2.elim
  | _ => exact p1.elim⟩
def aIndexL (ea eb : AEx) : AEx := fun env P => ea env fun x => lQ x fun xs => eb env fun y => flatD y = true ∧ xs.all flatD = true ∧ ∃ j : Nat, xs[j]? = some y ∧ (∀ m, m < j → xs[m]? ≠ some y) ∧ P (.int (j : Nat))
theorem a_indexL (ha : AEg Pk W H0 ta ea) (hb : AExp W H0 tb eb) : AExp W H0 (tBM W.K "list" (rIndex W.K) ta (tCons tb tNil)) (aIndexL ea eb) := ⟨fun σ env F H Q P ok m q k => ha.run σ env F H _ _ ok m q fun d F1 H1 v p1 x1 r1 => by
  cases d with
  | lst xs =>
    obtain ⟨a, vs, rfl, hA, np, rr⟩ := r1.lst x1.ok
    refine ⟨.inl ⟨rfl, vs, SqL.of hA⟩, hb.run σ env F1 H1 _ _ x1.ok (m.ext ok x1) p1 fun e F2 H2 u p2 x2 r2 => ?_⟩
    obtain ⟨f1, f2, j, g1, g2, p2⟩ := p2
    have rr2 := rr.sub (x2.sub x1.ok)
    have hA2 := x2.kp a _ hA np
    obtain ⟨v, e1, rv⟩ := rr2.get g1
    refine ⟨a, vs, u, j, v, rfl, rfl, SqL.of hA2, flat_v r2 f1, flat_vs rr2 f2, e1, (eqV_flat r2 rv f1 f1).mpr rfl, fun m z' hm hz => ?_, k _ F2 H2 _ p2 (x1.trans ok x2) (.int _)⟩
    obtain ⟨d', e2, rd⟩ := rr2.getV hz
    have fd' : flatD d' = true := List.all_eq_true.mp f2 d' (List.mem_of_getElem? e2)
    refine Bool.eq_false_iff.mpr fun z => ?_
    have := (eqV_flat r2 rd f1 fd').mp z
    subst this
    exact g2 m hm e2
  | _ => exact p1.elim⟩
/-! reverse -/
theorem RvAll.reverse {F : Addr → Prop} {H : Hp} : ∀ {vs : List V} {ds : List Dat}, RvAll W F H vs ds → RvAll W F H vs.reverse ds.reverse
  | _, _, .nil => .nil
  | _, _, .cons a r => by
    rw [List.reverse_cons, List.reverse_cons]
    exact (RvAll.reverse r).append (.cons a .nil)
def aRevT (ea : AEx) : AEx := fun env P => ea env fun x => tQ x fun xs => P (.tup xs.reverse)
theorem a_revT (ha : AExp W H0 ta ea) : AExp W H0 (tRevF W.K ta) (aRevT ea) := ⟨fun σ env F H Q P ok m q k => ha.run σ env F H _ _ ok m q fun d F1 H1 v p1 x1 r1 => by
  cases r1 with
  | @tup a vs _ hA rr =>
    refine ⟨a, vs, rfl, hA.sq, fun p o hp tp => ?_⟩
    have x2 : Ext W F1 H1 (fun b => F1 b ∨ b = p) (upd H1 p o) := Ext.new x1.ok hp
    exact k _ _ _ _ p1 (x1.trans ok x2) (.tup ⟨.inr rfl, o, upd_same, tp⟩ (rr.reverse.sub (x2.sub x1.ok)))
  | _ => exact p1.elim⟩
def aRevL (ea : AEx) : AFr := fun env P => ea env fun x => lQ x fun xs => P xs.reverse
theorem a_revL (ha : AEg Pk W H0 ta ea) : AFrs W H0 (tRevL W.K ta) (aRevL ea) := ⟨fun σ env F H Q P ok m q k => ha.run σ env F H _ _ ok m q fun d F1 H1 v p1 x1 r1 => by
  cases d with
  | lst xs =>
    obtain ⟨a, vs, rfl, hA, np, rr⟩ := r1.lst x1.ok
    refine ⟨a, vs, rfl, SqL.of hA, fun p hp => ?_⟩
    have x2 : Ext W F1 H1 F1 (upd H1 p (.lst vs.reverse)) := Ext.lay x1.ok hp
    exact k _ _ _ _ _ p1 (x1.trans ok x2) (x1.there ok hp) (fun f => x1.ok.tr p f hp) upd_same (rr.reverse.sub (x2.sub x1.ok))
  | _ => exact p1.elim⟩
theorem i_ran2 {t : TA} {aa : AFr} (h : AArg W H0 2 t aa) : AIter W H0 (iRng2 t) (iRan aa) := ⟨fun σ env F H R P ok m q k => h.run σ env F H _ _ ok m q fun ds F1 H1 vs p1 x1 r1 l1 => by
  match ds, l1, p1, r1 with
  | [.int i, .int j], _, p1, .cons r (.cons r2 .nil) =>
    obtain ⟨p0, p1⟩ := p1
    cases r
    cases r2
    exact ⟨i, j, rfl, ⟨by omega, by omega, by omega, by omega⟩, k _ F1 H1 _ p1 x1 (it_ran i (j - i).toNat)⟩⟩
end

/-! ### zip of three, its triples without a dict -/
theorem sep3K {N a b c : Addr} (h1 : a < N) (h2 : b < N) (h3 : c < N) : ZipSep3 (N + 5) (N + 3) (N + 4) N (N + 1) (N + 2) [N, a] [N + 1, b] [N + 2, c] :=
  zip_sep3 (fp1 := [a]) (fp2 := [b]) (fp3 := [c]) (fun x hx => by rw [List.mem_singleton.mp hx]; exact h1) (fun x hx => by rw [List.mem_singleton.mp hx]; exact h2) (fun x hx => by rw [List.mem_singleton.mp hx]; exact h3)
/-- the turns of a zip of a, b and c -/
def ItzT (k1 k2 k3 : Bool) (K : PySem.W.Frag) (a b c : Addr) : It where
  go := fun i H => ∃ (xs ys zs : List V) (x y z : V), SqK k1 K H a xs ∧ SqK k2 K H b ys ∧ SqK k3 K H c zs ∧ xs[i]? = some x ∧ ys[i]? = some y ∧ zs[i]? = some z
  yld := fun i H v H' => ∃ T x y z o, v = .ref T ∧ H T = none ∧ TpO o [x, y, z] ∧ H' = upd H T o ∧ (∀ xs, SqK k1 K H a xs → xs[i]? = some x) ∧ (∀ ys, SqK k2 K H b ys → ys[i]? = some y) ∧ ∀ zs, SqK k3 K H c zs → zs[i]? = some z
  stop := fun i H => ∃ xs ys zs : List V, SqK k1 K H a xs ∧ SqK k2 K H b ys ∧ SqK k3 K H c zs ∧ i ≤ xs.length ∧ i ≤ ys.length ∧ i ≤ zs.length ∧ (i = xs.length ∨ i = ys.length ∨ i = zs.length)
theorem at_some {us : List Value} {i : Nat} {u u' : Value} (hu : us[i]? = some u) (eu : us.toArray[i]? = some u') : u' = u := by
  have : us.toArray[i]? = some u := by simpa using hu
  rw [this] at eu
  exact (Option.some.inj eu).symm
theorem turnT {P : Program} {w : World} {K : PySem.W.Frag} {elts : List Expr} {kk : Nat} {tpos : Pos} {k1 k2 k3 : Bool} {a b c z TI TO i1 i2 i3 : Addr} (D : ZipSep3 z TI TO i1 i2 i3 [i1, a] [i2, b] [i3, c]) (na : a ≠ i1) (nb : b ≠ i2) (nc : c ≠ i3) :
    Turn P w K (.Tuple elts kk tpos) (ItzT k1 k2 k3 K a b c) [z, TI, TO, i1, i2, i3] z
      (fun i h => IsZip h z TI TO .none ∧ IsTupOf3 h TI (.ref i1) (.ref i2) (.ref i3) ∧ (∃ x y u, IsTupOf3 h TO x y u) ∧ ItK k1 h i1 a i ∧ ItK k2 h i2 b i ∧ ItK k3 h i3 c i) where
  mem := by simp
  obj := fun i h st c hc => by
    obtain ⟨hz, hTI, ⟨x, y, u, hTO⟩, g1, g2, g3⟩ := st
    simp only [List.mem_cons, List.not_mem_nil, or_false] at hc
    rcases hc with rfl | rfl | rfl | rfl | rfl | rfl
    · exact ⟨_, hz, fun v q => nomatch q⟩
    · exact ⟨_, hTI, fun v q => nomatch q⟩
    · exact ⟨_, hTO, fun v q => nomatch q⟩
    · exact g1.obj
    · exact g2.obj
    · exact g3.obj
  keep := fun i h h' st q => by
    obtain ⟨hz, hTI, ⟨x, y, u, hTO⟩, g1, g2, g3⟩ := st
    exact ⟨q z (by simp) _ hz, q TI (by simp) _ hTI, ⟨x, y, u, q TO (by simp) _ hTO⟩, g1.at fun o => q i1 (by simp) o, g2.at fun o => q i2 (by simp) o, g3.at fun o => q i3 (by simp) o⟩
  item := by
    intro X hP hw hK hc i pins s σ H E I hf st hg
    subst hP hw hK
    obtain ⟨hz, hTI, ⟨x0, y0, u0, hTO⟩, g1, g2, g3⟩ := st
    obtain ⟨xs, ys, zs, x, y, zz, qx, qy, qz, hx, hy, hzz⟩ := hg
    obtain ⟨us, ru, pu, _⟩ := seqK I qx
    obtain ⟨vs, rv, pv, _⟩ := seqK I qy
    obtain ⟨ws, rw', pw, _⟩ := seqK I qz
    obtain ⟨u, hu, ru1⟩ := ru.get hx
    obtain ⟨v, hv, rv1⟩ := rv.get hy
    obtain ⟨t, ht, rt1⟩ := rw'.get hzz
    have zl : z < s.heap.objs.size := Heap.lt_size hz
    have lu : i < us.toArray.size := by simpa using (List.getElem?_eq_some_iff.mp hu).1
    have lv : i < vs.toArray.size := by simpa using (List.getElem?_eq_some_iff.mp hv).1
    have lw : i < ws.toArray.size := by simpa using (List.getElem?_eq_some_iff.mp ht).1
    have hh : X.A.in1.handled = none := I.ok.hd hc
    have d1 := drK (prog := X.prog) (w := X.w) (A := X.A.in1) k1 hh na us.toArray
    have d2 := drK (prog := X.prog) (w := X.w) (A := X.A.in1) k2 hh nb vs.toArray
    have d3 := drK (prog := X.prog) (w := X.w) (A := X.A.in1) k3 hh nc ws.toArray
    refine wpAny_pyNext_zipD3_item D d1 d2 d3 hz hTI hTO ⟨g1, pu⟩ ⟨g2, pv⟩ ⟨g3, pw⟩ lu lv lw fun u' v' t' h' tk eu ev et z1 t1 s1 s2 s3 hT hsz hk => ?_
    have eu' := at_some hu eu
    have ev' := at_some hv ev
    have et' := at_some ht et
    subst eu' ev' et'
    refine ⟨_, rfl, wpAny_letOwnedTupleGo_zip (s := { s with heap := h', toks := tk }) z1 fun h2 z2 sb => ?_⟩
    have hT2 : IsTupOf3 h2 s.heap.objs.size u' v' t' := (sb.2 _ (Nat.ne_of_gt zl)).trans hT
    have new : ObjOk X.prog X.w (upd H s.heap.objs.size (.frz { cls := .type "tuple", data := .seq #[u', v', t'] } (.tup [x, y, zz]))) h2 s.heap.objs.size (.frz { cls := .type "tuple", data := .seq #[u', v', t'] } (.tup [x, y, zz])) := ⟨hT2, Nat.le_of_ble_eq_true rfl, [u', v', t'], .cons ru1 (.cons rv1 (.cons rt1 .nil)), ⟨_, hT2, rfl, _, rfl⟩⟩
    have ks : ∀ c o, c ∉ [z, TI, TO, i1, i2, i3] → s.heap.get? c = some o → h2.get? c = some o := fun c o hb q => by
      simp only [List.mem_cons, List.not_mem_nil, or_false, not_or] at hb
      exact (sb.2 c hb.1).trans (hk c o hb.1 hb.2.2.1 hb.2.2.2.1 hb.2.2.2.2.1 hb.2.2.2.2.2 q)
    have J := I.turnedNew (t' := tk) (ch := [z, TI, TO, i1, i2, i3]) ks hf (Nat.le_refl _) new
    refine ⟨V.ref s.heap.objs.size, _, J, rfl, ⟨_, x, y, zz, _, rfl, I.hok.fresh (Nat.le_refl _), ⟨_, rfl, rfl⟩, rfl, fun l hl => by rw [seqK_inj I hl qx]; exact hx, fun l hl => by rw [seqK_inj I hl qy]; exact hy, fun l hl => by rw [seqK_inj I hl qz]; exact hzz⟩,
      ⟨z2, ?_, ⟨u', v', t', (sb.2 _ D.TOz).trans t1⟩, s1.1.at fun o q => (sb.2 _ D.zi1.symm).trans q, s2.1.at fun o q => (sb.2 _ D.zi2.symm).trans q, s3.1.at fun o q => (sb.2 _ D.zi3.symm).trans q⟩, fun c hcm => ?_⟩
    · exact (sb.2 _ D.TIz).trans (hk _ _ D.TIz D.TITO D.TIi1 D.TIi2 D.TIi3 hTI)
    · have hlt : c < s.heap.objs.size := by
        simp only [List.mem_cons, List.not_mem_nil, or_false] at hcm
        rcases hcm with rfl | rfl | rfl | rfl | rfl | rfl
        · exact zl
        · exact Heap.lt_size hTI
        · exact Heap.lt_size hTO
        · obtain ⟨_, e, _⟩ := g1.obj
          exact Heap.lt_size e
        · obtain ⟨_, e, _⟩ := g2.obj
          exact Heap.lt_size e
        · obtain ⟨_, e, _⟩ := g3.obj
          exact Heap.lt_size e
      rw [upd_ne (Nat.ne_of_lt hlt)]
      exact (hf c hcm).1
  done := by
    intro X hP hw hK hc i pins s σ H E I hf st hg
    subst hP hw hK
    obtain ⟨hz, hTI, ⟨x0, y0, u0, hTO⟩, g1, g2, g3⟩ := st
    obtain ⟨xs, ys, zs, qx, qy, qz, lx, ly, lz, hend⟩ := hg
    obtain ⟨us, ru, pu, _⟩ := seqK I qx
    obtain ⟨vs, rv, pv, _⟩ := seqK I qy
    obtain ⟨ws, rw', pw, _⟩ := seqK I qz
    have e1 := ru.length
    have e2 := rv.length
    have e3 := rw'.length
    have hh : X.A.in1.handled = none := I.ok.hd hc
    have d1 := drK (prog := X.prog) (w := X.w) (A := X.A.in1) k1 hh na us.toArray
    have d2 := drK (prog := X.prog) (w := X.w) (A := X.A.in1) k2 hh nb vs.toArray
    have d3 := drK (prog := X.prog) (w := X.w) (A := X.A.in1) k3 hh nc ws.toArray
    refine wpAny_pyNext_zipD3_end D d1 d2 d3 hz hTI hTO ⟨g1, pu⟩ ⟨g2, pv⟩ ⟨g3, pw⟩ (by simp; omega) (by simp; omega) (by simp; omega) (by simp; omega) fun h' tk hk => ⟨rfl, I.turnedL (t' := tk) (ch := [z, TI, TO, i1, i2, i3]) (fun c o hb q => ?_) hf⟩
    simp only [List.mem_cons, List.not_mem_nil, or_false, not_or] at hb
    exact hk c o hb.1 hb.2.2.1 hb.2.2.2.1 hb.2.2.2.2.1 hb.2.2.2.2.2 q
  self := fun A i s Q E st h => wpAny_pyIter_zip st.1 h
/-- zip(e, e2, e3): the kinds told -/
def iZipT (k1 k2 k3 : Bool) (K : PySem.W.Frag) (ta : TA) : TI := fun σ H R => ta σ H fun vs H1 => ∃ a b c xs ys zs, vs = [.ref a, .ref b, .ref c] ∧ SqK k1 K H1 a xs ∧ SqK k2 K H1 b ys ∧ SqK k3 K H1 c zs ∧ R (ItzT k1 k2 k3 K a b c) H1
theorem fresh6 {X : Cx} {pins : List (Addr × Obj)} {σ : L2.St} {H : Hp} {s : Shared} (I : Inv X pins σ H s) (c : Addr) (hc : c ∈ [s.heap.objs.size + 5, s.heap.objs.size + 3, s.heap.objs.size + 4, s.heap.objs.size, s.heap.objs.size + 1, s.heap.objs.size + 2]) : FpOk X pins H c := by
  have le : s.heap.objs.size ≤ c := by
    simp only [List.mem_cons, List.not_mem_nil, or_false] at hc
    rcases hc with rfl | rfl | rfl | rfl | rfl | rfl
    · exact Nat.le_add_right _ _
    · exact Nat.le_add_right _ _
    · exact Nat.le_add_right _ _
    · exact Nat.le_refl _
    · exact Nat.le_add_right _ _
    · exact Nat.le_add_right _ _
  exact I.fpOk le (I.hok.fresh le)
theorem vals3 {x y z : V} {us : List Value} (h : Vals [x, y, z] us) : ∃ u v w, us = [u, v, w] ∧ RelV x u ∧ RelV y v ∧ RelV z w := by
  cases h with
  | cons a h =>
    cases h with
    | cons b h =>
      cases h with
      | cons c h =>
        cases h
        exact ⟨_, _, _, rfl, a, b, c⟩
theorem pi_zipT (k1 k2 k3 : Bool) {X : Cx} {K : PySem.W.Frag} (hK : X.K = K) {e e2 e3 : Expr} {ta : TA} {p pos tpos : Pos} {elts : List Expr} {kk : Nat} (hg : Gl X "zip") (hm : X.mg "zip" = none) (ha : PA X [e, e2, e3] ta)
    (hs : starEach [e, e2, e3] X.env = (false, eval e X.env) :: starEach [e2, e3] X.env := by rfl) (hpl : (backTo pos (starEach [e2, e3] X.env)).any (·.1) = false := by rfl) :
    PI X (.Tuple elts kk tpos) (.Call (.Name "zip" p) [e, e2, e3] [] pos) (iZipT k1 k2 k3 K ta) := by
  subst hK
  refine ⟨fun pins s σ H R I h => Call_ (ld_blt I hg hm PyProof.Rows.boot_zip (PyProof.Rows.callWith_type1 (thn (ha.run pos pins s σ H _ I h) fun us s1 hh => ?_) hs hpl))⟩
  obtain ⟨vs, H1, I1, r1, a, b, c, xs, ys, zs, rfl, qx, qy, qz, q⟩ := hh
  obtain ⟨u1, u2, u3, rfl, ru, rv, rw'⟩ := vals3 r1
  cases (show u1 = Value.ref a from ru)
  cases (show u2 = Value.ref b from rv)
  cases (show u3 = Value.ref c from rw')
  obtain ⟨us, _, pu, _⟩ := seqK I1 qx
  obtain ⟨ws, _, pw, _⟩ := seqK I1 qy
  obtain ⟨ts, _, pt, _⟩ := seqK I1 qz
  refine zip_begins3 (bgK k1 a us.toArray) (bgK k2 b ws.toArray) (bgK k3 c ts.toArray) pu pw pt fun h' hz hTI hTO o1 o2 o3 hsz hk => wpAny_pyIter_zip hz ?_
  have J : Inv X pins σ H1 { s1 with heap := h' } := I1.kept (t' := s1.toks) hk
  have la : (a : Nat) < s1.heap.objs.size := pu.lt
  have lb : (b : Nat) < s1.heap.objs.size := pw.lt
  have lc : (c : Nat) < s1.heap.objs.size := pt.lt
  exact ⟨_, [s1.heap.objs.size + 5, s1.heap.objs.size + 3, s1.heap.objs.size + 4, s1.heap.objs.size, s1.heap.objs.size + 1, s1.heap.objs.size + 2], _, _, H1, rfl, J,
    turnT (sep3K la lb lc) (Nat.ne_of_lt la) (Nat.ne_of_lt (Nat.lt_succ_of_lt lb)) (Nat.ne_of_lt (Nat.lt_succ_of_lt (Nat.lt_succ_of_lt lc))), ⟨hz, hTI, ⟨_, _, _, hTO⟩, itK0 o1, itK0 o2, itK0 o3⟩, fresh6 I1, q⟩

/-! ### zip of three, over data -/
def zip3D : List Dat → List Dat → List Dat → List Dat
  | x :: xs, y :: ys, z :: zs => .tup [x, y, z] :: zip3D xs ys zs
  | _, _, _ => []
theorem zip3D_get : ∀ (xs ys zs : List Dat) (i : Nat) (d : Dat), (zip3D xs ys zs)[i]? = some d → ∃ x y z, xs[i]? = some x ∧ ys[i]? = some y ∧ zs[i]? = some z ∧ d = .tup [x, y, z]
  | [], _, _, i, d, e => by simp [zip3D] at e
  | _ :: _, [], _, i, d, e => by simp [zip3D] at e
  | _ :: _, _ :: _, [], i, d, e => by simp [zip3D] at e
  | x :: xs, y :: ys, z :: zs, 0, d, e => by
    simp only [zip3D, List.getElem?_cons_zero, Option.some.injEq] at e
    exact ⟨x, y, z, rfl, rfl, rfl, e.symm⟩
  | x :: xs, y :: ys, z :: zs, i + 1, d, e => by
    simp only [zip3D, List.getElem?_cons_succ] at e ⊢
    exact zip3D_get xs ys zs i d e
theorem zip3D_len : ∀ xs ys zs : List Dat, (zip3D xs ys zs).length ≤ xs.length ∧ (zip3D xs ys zs).length ≤ ys.length ∧ (zip3D xs ys zs).length ≤ zs.length ∧ ((zip3D xs ys zs).length = xs.length ∨ (zip3D xs ys zs).length = ys.length ∨ (zip3D xs ys zs).length = zs.length)
  | [], _, _ => by simp [zip3D]
  | _ :: _, [], _ => by simp [zip3D]
  | _ :: _, _ :: _, [] => by simp [zip3D]
  | x :: xs, y :: ys, z :: zs => by
    have := zip3D_len xs ys zs
    simp only [zip3D, List.length_cons]
    omega
def iZip3A (k1 k2 k3 : Bool) (aa : AFr) : AFr := fun env P => aa env fun ds => match ds with
  | [x, y, z] => kQ k1 x fun xs => kQ k2 y fun ys => kQ k3 z fun zs => P (zip3D xs ys zs)
  | _ => False
theorem i_zip3 {W : Wd} {H0 : Hp} {k1 k2 k3 : Bool} {t : TA} {aa : AFr} (h : AArg W H0 3 t aa) : AIter W H0 (iZipT k1 k2 k3 W.K t) (iZip3A k1 k2 k3 aa) := ⟨fun σ env F H R P ok m q kk => h.run σ env F H _ _ ok m q fun ds F1 H1 vs p1 x1 r1 l1 => by
  match ds, l1, p1, r1 with
  | [d, e, f], _, p1, .cons r1 (.cons r2 (.cons r3 .nil)) =>
    have p1 : kQ k1 d fun xs => kQ k2 e fun ys => kQ k3 f fun zs => P (zip3D xs ys zs) := p1
    obtain ⟨a, us, xs, rfl, ha, ra, p1⟩ := kQ_rv r1 p1
    obtain ⟨b, ws, ys, rfl, hb, rb, p1⟩ := kQ_rv r2 p1
    obtain ⟨c, ts, zs, rfl, hc, rc, p1⟩ := kQ_rv r3 p1
    refine ⟨a, b, c, us, ws, ts, rfl, kQ_sub ha (Sub.refl _ _), kQ_sub hb (Sub.refl _ _), kQ_sub hc (Sub.refl _ _), kk _ F1 H1 _ p1 x1 ⟨fun F2 H2 ok2 s i z e => ?_, fun F2 H2 ok2 s => ?_⟩⟩
    · obtain ⟨x, y, z', e1, e2, e3, rfl⟩ := zip3D_get xs ys zs i z e
      obtain ⟨v, f1, rv⟩ := ra.get e1
      obtain ⟨w, f2, rw_⟩ := rb.get e2
      obtain ⟨t, f3, rt⟩ := rc.get e3
      have qa2 : SqK k1 W.K H2 a us := kQ_sub ha s
      have qb2 : SqK k2 W.K H2 b ws := kQ_sub hb s
      have qc2 : SqK k3 W.K H2 c ts := kQ_sub hc s
      refine ⟨⟨us, ws, ts, v, w, t, qa2, qb2, qc2, f1, f2, f3⟩, fun u H3 yl => ?_⟩
      obtain ⟨T, v', w', t', o, rfl, hT, tp, rfl, g1, g2, g3⟩ := yl
      have g1 := g1 us qa2
      have g2 := g2 ws qb2
      have g3 := g3 ts qc2
      rw [f1] at g1
      rw [f2] at g2
      rw [f3] at g3
      cases g1
      cases g2
      cases g3
      have x2 : Ext W F2 H2 (fun c => F2 c ∨ c = T) (upd H2 T o) := Ext.new ok2 hT
      have s2 := s.trans (x2.sub ok2)
      exact ⟨_, x2, .tup ⟨.inr rfl, o, upd_same, tp⟩ (.cons (rv.sub s2) (.cons (rw_.sub s2) (.cons (rt.sub s2) .nil)))⟩
    · have := zip3D_len xs ys zs
      have la := ra.length
      have lb := rb.length
      have lc := rc.length
      exact ⟨us, ws, ts, kQ_sub ha s, kQ_sub hb s, kQ_sub hc s, by omega, by omega, by omega, by omega⟩⟩

/-! ### sum(..) of a tuple of ints -/
def rSumT (K : PySem.W.Frag) : List V → Hp → VK → Prop := fun vs H Q => ∃ (a : Addr) (ns : List Int), vs = [V.ref a] ∧ SqT K H a (ns.map V.int) ∧ Q (.int ns.sum) H
theorem ksumT {X : Cx} {K : PySem.W.Frag} (hK : X.K = K) (hc : X.calm = true) : CallR X (.builtin "sum") (rSumT K) := by
  subst hK
  intro pins s σ H vs us Q I r ⟨a, ns, e, hs, q⟩
  subst e
  obtain ⟨its, rv, ⟨o, ho, hoc, n, hod⟩, _⟩ := I.tuple hs
  rw [Vals.ref1 r]
  have hi := rv.ints
  obtain ⟨xs, e⟩ := hi.allInts.items
  have hn : numsOf (intItems xs).toList = ns := by rw [← e]; exact hi.numsOf
  rw [nums_intItems] at hn
  subst hn
  rw [e] at hod
  have ht : s.heap.IsTuple a (intItems xs) := ⟨o, ho, hoc, n, hod⟩
  have hlt : a < s.heap.objs.size := Heap.lt_size ho
  refine call_sum_walkG (wpAny_pyIter_tuple ht ?_)
  refine ⟨s.heap.objs.size, [s.heap.objs.size, a], [s.heap.objs.size], _, _, _, numAt xs, rfl, Walks.tuple (A := X.A.in1) (I.ok.hd hc) _ a (Nat.ne_of_lt hlt) (intItems xs),
    ⟨⟨_, Heap.get?_push_size _ rfl, rfl, rfl⟩, ht.push _⟩, fun b hb => ?_, fun _ _ hp => intItems_at hp, fun h' tk t' hk => ?_⟩
  · show b < (s.heap.push _).objs.size
    rw [Heap.size_push]
    rcases List.mem_cons.mp hb with z | z
    · rw [z]
      exact Nat.lt_succ_self _
    · rw [List.mem_singleton.mp z]
      exact Nat.lt_succ_of_lt hlt
  · refine ⟨.int _, H, I.kept (t' := tk) fun b u eb => hk b u (fun hm => ?_) (Heap.get?_push_of_some _ eb), ⟨t', rfl⟩, ?_⟩
    · rw [List.mem_singleton.mp hm] at eb
      exact absurd (Heap.lt_size eb) (Nat.lt_irrefl _)
    · have e2 : (intItems xs).size = xs.size := by simp [intItems]
      rw [e2, preSum_eq, List.take_of_length_le (by simp)]
      exact q
def kSumT : Dat → (Dat → Prop) → Prop
  | .tup xs, P => ∃ ns : List Int, xs = ns.map Dat.int ∧ P (.int ns.sum)
  | _, _ => False
theorem u_sumT {W : Wd} : UOk W Pk (rSumT W.K) kSumT := fun F H x d Q P ok r q k => by
  cases d with
  | tup xs =>
    obtain ⟨ns, rfl, q⟩ := q
    cases r with
    | rv r =>
      cases r with
      | tup hA rr =>
        have e := rr.ints
        subst e
        exact ⟨_, ns, rfl, hA.sq, k _ F H _ q (.refl ok) (.int _)⟩
  | _ => exact q.elim
/-! list.insert -/
/-- x.insert(e, f), x a list of the def's own -/
def sIns (i : Nat) (ea eb : AEx) : ASt := fun D env => oQ2 (dAt env i) fun xs => xs.length < 100000 ∧ ea env fun x => match x with
  | .int j => (0 ≤ j ∧ j < 100000) ∧ eb env fun d => D.nx (env.set i (.o (xs.take j.toNat ++ [d] ++ xs.drop j.toNat)))
  | _ => False
def rInsert : V → List V → Hp → VK → Prop := fun x vs H Q => ∃ (l : Addr) (xs : List V) (i : Int) (y : V), x = .ref l ∧ vs = [.int i, y] ∧ H l = some (.lst xs) ∧ xs.length < sizeLine ∧ 0 ≤ i ∧ i < 2 ^ 63 ∧
    Q .non (upd H l (.lst (xs.take i.toNat ++ [y] ++ xs.drop i.toNat)))
theorem kins {X : Cx} : MtR X "list.insert" rInsert := mt_insert
theorem s_ins {W : Wd} {te tf : TE} {ea eb : AEx} {i : Nat} (he : ∀ H0, AExp W H0 te ea) (hf : ∀ H0, AExp W H0 tf eb) : AStm W (tDrop (tBM W.K "list" rInsert (tVar i) (tCons te (tCons tf tNil)))) (sIns i ea eb) := ⟨fun F0 H0 F1 H1 De Da σ env F H ok b m k h => by
  obtain ⟨xs, a, vs, ⟨hl, h⟩, e, es, nf, n0, hA, r, np⟩ := own_at m h
  refine ⟨_, es, .inl ⟨rfl, vs, SqL.of hA⟩, ?_⟩
  refine (he H0).run σ env F H _ _ b.ex.ok m h fun d F' H' v p x rv => ?_
  cases rv with
  | int j =>
    obtain ⟨⟨j0, j1⟩, p⟩ := p
    obtain ⟨nf', hA', r'⟩ := own_ext b.ex.ok x nf hA r np
    refine (hf H0).run σ env F' H' _ _ x.ok (m.ext b.ex.ok x) p fun d2 F2 H2 v2 p2 x2 rv2 => ?_
    obtain ⟨nf2, hA2, r2⟩ := own_ext x.ok x2 nf' hA' r' np
    have m2 := (m.ext b.ex.ok x).ext x.ok x2
    obtain ⟨b3, m3⟩ := s_own ok ((b.step ok x).step ok x2) m2 e es nf2 n0 np (((r2.take j.toNat).append (.cons rv2 .nil)).append (r2.drop j.toNat))
    exact ⟨a, vs, j, v2, rfl, rfl, hA2, len_size (by rw [r.length]; omega), j0, by omega, k.nx _ _ _ _ b3 m3 p2⟩
  | _ => exact p.elim⟩

/-! ### == of tuples whose items have an == of their own, of both answers -/
open AutoSeq1 (wpAny_loadPart')
theorem tuple_eqB {prog : Program} {w : World} {A : Around} {R : Result → Shared → Prop} (l b : Addr) (items items2 : Array Value) (n n2 : Nat) (dd dd2 : Option Addr) (sl sl2 : Array (Option Value)) (I : Nat → Shared → Prop) (N : Shared → Prop)
    (turn : ∀ i (h1 : i < items.size) (h2 : i < items2.size) s, I i s → wpAny (model prog w) A.in1 (eqBool items[i] items2[i]) (fun r s' => (r = true ∧ I (i + 1) s') ∨ (r = false ∧ N s')) (fun e s' => R (.error e) s') s)
    (fin : ∀ s, I (min items.size items2.size) s → R (.ok (.ret (.bool (items.size == items2.size)))) s) (bad : ∀ s, N s → R (.ok (.ret (.bool false))) s)
    {s : Shared} (hl1 : s.heap.get? l = some { cls := .type "tuple", dict := dd, data := .seq items n, slots := sl }) (hb1 : s.heap.get? b = some { cls := .type "tuple", dict := dd2, data := .seq items2 n2, slots := sl2 }) (h : I 0 s) :
    wpAny (model prog w) A.in1 (Builtin.«tuple.__eq__» ⟨[.ref l, .ref b], []⟩) (GQ.FinOf prog w A R) (fun e s' => R (.error e) s') s := by
  have f2 := AutoSeq1.sub_tuple_tuple
  have hZ : (items.toList.zip items2.toList).length = min items.size items2.size := by simp
  have h0 := h
  obtain ⟨hp, g, d, tk, os⟩ := s
  wp_walk using wpAny_loadPart' hl1, wpAny_loadPart' hb1, wpAny_forIn_list _ (fun rest b s' => b.1 = none ∧ ∃ i, rest = (items.toList.zip items2.toList).drop i ∧ i ≤ min items.size items2.size ∧ I i s') _
  case turn =>
    rintro ⟨y, x⟩ rest b s' ⟨hb', i, hz, hi, hI⟩
    have hlt : i < (items.toList.zip items2.toList).length := by
      rcases Nat.lt_or_ge i (items.toList.zip items2.toList).length with h' | h'
      · exact h'
      · rw [List.drop_of_length_le h'] at hz; cases hz
    have hm : i < min items.size items2.size := hZ ▸ hlt
    have h1 : i < items.size := Nat.lt_of_lt_of_le hm (Nat.min_le_left _ _)
    have h2 : i < items2.size := Nat.lt_of_lt_of_le hm (Nat.min_le_right _ _)
    rw [List.drop_eq_getElem_cons hlt] at hz
    injection hz with hyx hrest
    have hy : y = items[i] := by have := congrArg Prod.fst hyx; simpa using this
    have hx : x = items2[i] := by have := congrArg Prod.snd hyx; simpa using this
    subst hy hx
    refine wpAny_bind (wpAny_mono (turn i h1 h2 s' hI) (fun r s2 q2 => ?_) fun _ _ x => x)
    rcases q2 with ⟨hr, q2⟩ | ⟨hr, q2⟩
    · subst hr
      wp_walk
      exact ⟨rfl, i + 1, hrest, hm, q2⟩
    · subst hr
      have hR := bad s2 q2
      wp_walk
      simpa using hR
  case fin =>
    rintro ⟨b1, b2⟩ s' ⟨hb', i, hz, hi, hI⟩
    simp only at hb'
    subst hb'
    have hge : min items.size items2.size ≤ i := by
      rcases Nat.lt_or_ge i (items.toList.zip items2.toList).length with h' | h'
      · rw [List.drop_eq_getElem_cons h'] at hz; cases hz
      · exact hZ ▸ h'
    have hi' : i = min items.size items2.size := Nat.le_antisymm hi hge
    have hR := fin s' (hi' ▸ hI)
    wp_walk
    simpa [Builtin.Tuple.tupleCompareSizes] using hR
  case h =>
    exact ⟨rfl, 0, rfl, Nat.zero_le _, h0⟩
theorem rc_tupB {prog : Program} {w : World} {A : Around} {E : Value → Shared → Prop} {s : Shared} {l b : Addr} {items items2 : Array Value} {Q : Value → Shared → Prop} (hu : A.units < cLine) (I : Nat → Shared → Prop) (N : Shared → Prop)
    (hl : s.heap.IsTuple l items) (hb : s.heap.IsTuple b items2)
    (turn : ∀ i (h1 : i < items.size) (h2 : i < items2.size) s, I i s → wpAny (model prog w) A.in1 (eqBool items[i] items2[i]) (fun r s' => (r = true ∧ I (i + 1) s') ∨ (r = false ∧ N s')) E s)
    (fin : ∀ s, I (min items.size items2.size) s → Q (.bool (items.size == items2.size)) s) (bad : ∀ s, N s → Q (.bool false) s) (h : I 0 s) : wpAny (model prog w) A (richCompare .Eq (.ref l) (.ref b)) Q E s := by
  obtain ⟨⟨cls, dd, data, sl⟩, ho, hc, n, hd⟩ := id hl
  obtain ⟨⟨cls2, dd2, data2, sl2⟩, ho2, hc2, n2, hd2⟩ := id hb
  simp only at hc hd hc2 hd2
  subst hc hd hc2 hd2
  refine wpAny_richCompare_same_room (op := .Eq) ⟨_, ho, rfl⟩ ⟨_, ho2, rfl⟩ F.slot_tuple_eq (GQ.call_here F.slot_tuple_eq ⟨_, ho, rfl⟩ F.entry_tuple_eq (F.args_tuple_eq_2 _ _) ?_) hu
  exact tuple_eqB (R := wants (fun v s' => v ≠ .notImplemented ∧ Q v s') E) l b items items2 n n2 dd dd2 sl sl2 I N turn (fun s' q => ⟨(fun x => nomatch x), fin s' q⟩) (fun s' q => ⟨(fun x => nomatch x), bad s' q⟩) ho ho2 h
/-! over data -/
/-- a value reads in one way only -/
def UQ (S : Dat → Dat → Prop) : Prop := ∀ (W : Wd) (F : Addr → Prop) (H : Hp) (v : V) (d e : Dat), S d e → Rv W F H v d → Rv W F H v e → d = e
def EqS (X : Cx) (ca : Nat → Addr) (n : Nat) (S : Dat → Dat → Prop) : Prop :=
  ∀ (po : Option (Addr × Addr)) (A : Around) (pins : List (Addr × Obj)) (s : Shared) (σ : L2.St) (F : Addr → Prop) (H : Hp) (x y : V) (d e : Dat) (u v : Value), L2.Sub X n A → Inv X pins σ H s → RelV x u → RelV y v → Okk ⟨X.K, ca, po⟩ F H → Rv ⟨X.K, ca, po⟩ F H x d → Rv ⟨X.K, ca, po⟩ F H y e → S d e →
    wpAny (model X.prog X.w) A (eqBool u v) (fun r s' => (r = true ↔ d = e) ∧ ∃ F' H', Inv X pins σ H' s' ∧ Ext ⟨X.K, ca, po⟩ F H F' H') X.xe s
def RcS (X : Cx) (ca : Nat → Addr) (n : Nat) (S : Dat → Dat → Prop) : Prop :=
  ∀ (po : Option (Addr × Addr)) (A : Around) (pins : List (Addr × Obj)) (s : Shared) (σ : L2.St) (F : Addr → Prop) (H : Hp) (x y : V) (d e : Dat) (u v : Value), L2.Sub X n A → Inv X pins σ H s → RelV x u → RelV y v → Okk ⟨X.K, ca, po⟩ F H → Rv ⟨X.K, ca, po⟩ F H x d → Rv ⟨X.K, ca, po⟩ F H y e → S d e →
    wpAny (model X.prog X.w) A (richCompare .Eq u v) (fun r s' => (∃ b, r = .bool b ∧ (b = true ↔ d = e)) ∧ ∃ F' H', Inv X pins σ H' s' ∧ Ext ⟨X.K, ca, po⟩ F H F' H') X.xe s
def refD : Dat → Prop
  | .tup _ => True
  | .obj _ _ => True
  | _ => False
theorem rv_ref {W : Wd} {F : Addr → Prop} {H : Hp} {v : V} {d : Dat} (r : Rv W F H v d) (h : refD d) : ∃ a, v = .ref a := by
  cases r <;> first | exact h.elim | exact ⟨_, rfl⟩
section
variable {X : Cx} {ca : Nat → Addr} {n : Nat} {S : Dat → Dat → Prop}
theorem RcS.eqS (h : RcS X ca n S) (hr : ∀ d e, S d e → refD d ∧ refD e) (hu : UQ S) : EqS X ca n S := by
  intro po A pins s σ F H x y d e u v sb I rx ry ok r1 r2 hs
  obtain ⟨a, rfl⟩ := rv_ref r1 (hr d e hs).1
  obtain ⟨b, rfl⟩ := rv_ref r2 (hr d e hs).2
  cases rx
  cases ry
  by_cases hab : a = b
  · subst hab
    exact SeqAt.EqAt.same (A := A) (s := s) (.ref a) X.prog X.w X.xe _ ⟨⟨fun _ => hu _ _ _ _ _ _ hs r1 r2, fun _ => rfl⟩, F, H, I, .refl ok⟩
  · refine GQ.eqBool_refG hab (wpAny_mono (h po A pins s σ F H (.ref a) (.ref b) d e _ _ sb I rfl rfl ok r1 r2 hs) (fun r s' q => ?_) fun _ _ x => x)
    obtain ⟨⟨c, rfl, hc⟩, q⟩ := q
    exact ⟨c, rfl, hc, q⟩
/-- tuples, item by item -/
def tupS (S : Dat → Dat → Prop) : Dat → Dat → Prop := fun d e => ∃ ds es, d = .tup ds ∧ e = .tup es ∧ ∀ (i : Nat) (x y : Dat), ds[i]? = some x → es[i]? = some y → S x y
theorem tupS_ref : ∀ d e, tupS S d e → refD d ∧ refD e := fun d e ⟨ds, es, h1, h2, _⟩ => by
  subst h1 h2
  exact ⟨trivial, trivial⟩
theorem RvAll.uq (hu : UQ S) {W : Wd} {F : Addr → Prop} {H : Hp} : ∀ {vs : List V} {ds es : List Dat}, (∀ (i : Nat) (x y : Dat), ds[i]? = some x → es[i]? = some y → S x y) → RvAll W F H vs ds → RvAll W F H vs es → ds = es
  | _, _, _, _, .nil, .nil => rfl
  | _, _, _, h, .cons a r, .cons b q => by
    rw [hu _ _ _ _ _ _ (h 0 _ _ rfl rfl) a b, RvAll.uq hu (fun i x y h1 h2 => h (i + 1) x y h1 h2) r q]
theorem UQ.tup (hu : UQ S) : UQ (tupS S) := fun W F H v d e hs r1 r2 => by
  obtain ⟨ds, es, rfl, rfl, h⟩ := hs
  cases r1 with
  | @tup a vs _ hA rr =>
    cases r2 with
    | @tup _ ws _ hB qq =>
      have e1 : vs = ws := by
        obtain ⟨_, o, e1, t1⟩ := hA
        obtain ⟨_, o2, e2, t2⟩ := hB
        rw [e1] at e2
        cases e2
        obtain ⟨_, _, rfl⟩ := t1
        obtain ⟨_, _, h2⟩ := t2
        cases h2
        rfl
      subst e1
      rw [RvAll.uq hu h rr qq]
theorem RcS.tup (h : EqS X ca n S) : RcS X ca (n + 1) (tupS S) := by
  intro po A pins s σ F H x y d e u v sb I rx ry ok r1 r2 hs
  obtain ⟨ds, es, rfl, rfl, hs⟩ := hs
  cases r1 with
  | @tup a vs _ hA rr =>
    cases r2 with
    | @tup b ws _ hB qq =>
      cases rx
      cases ry
      obtain ⟨its, r, e, z⟩ := I.tuple hA.sq
      obtain ⟨its2, r2, e2, z2⟩ := I.tuple hB.sq
      have l1 : its.length = ds.length := by rw [← r.length, rr.length]
      have l2 : its2.length = es.length := by rw [← r2.length, qq.length]
      refine rc_tupB sb.room.units0 (fun i s' => ∃ F' H', Inv X pins σ H' s' ∧ Ext ⟨X.K, ca, po⟩ F H F' H' ∧ ∀ j, j < i → ds[j]? = es[j]?) (fun s' => ∃ F' H', Inv X pins σ H' s' ∧ Ext ⟨X.K, ca, po⟩ F H F' H' ∧ ds ≠ es) e e2 (fun i h1 h2 s' q => ?_) (fun s' q => ?_) (fun s' q => ?_) ⟨F, H, I, .refl ok, fun j hj => absurd hj (Nat.not_lt_zero j)⟩
      · obtain ⟨F1, H1, I1, x1, hj⟩ := q
        have k1 : i < vs.length := by rw [r.length]; simpa using h1
        have k2 : i < ws.length := by rw [r2.length]; simpa using h2
        obtain ⟨u, hu, ru⟩ := r.get (List.getElem?_eq_getElem k1)
        obtain ⟨v, hv, rv⟩ := r2.get (List.getElem?_eq_getElem k2)
        have g1 : its[i]? = some its.toArray[i] := by
          have h1' : i < its.length := by simpa using h1
          rw [List.getElem?_eq_getElem h1'] <;> simp
        have g2 : its2[i]? = some its2.toArray[i] := by
          have h2' : i < its2.length := by simpa using h2
          rw [List.getElem?_eq_getElem h2'] <;> simp
        rw [g1] at hu
        rw [g2] at hv
        rw [Option.some.inj hu, Option.some.inj hv]
        obtain ⟨d1, a1, b1⟩ := rr.getV (List.getElem?_eq_getElem k1)
        obtain ⟨d2, a2, b2⟩ := qq.getV (List.getElem?_eq_getElem k2)
        refine wpAny_mono (h po A.in1 pins s' σ F1 H1 _ _ d1 d2 _ _ sb.in1 I1 ru rv x1.ok (b1.sub (x1.sub ok)) (b2.sub (x1.sub ok)) (hs i d1 d2 a1 a2)) (fun r s2 q => ?_) fun _ _ x => x
        obtain ⟨hr, F2, H2, I2, x2⟩ := q
        cases r with
        | true =>
          refine .inl ⟨rfl, F2, H2, I2, x1.trans ok x2, fun j lt => ?_⟩
          by_cases z : j = i
          · subst z
            rw [a1, a2, hr.mp rfl]
          · exact hj j (by omega)
        | false =>
          refine .inr ⟨rfl, F2, H2, I2, x1.trans ok x2, fun z => ?_⟩
          rw [z, a2] at a1
          exact absurd (hr.mpr (Option.some.inj a1).symm) (by decide)
      · obtain ⟨F1, H1, I1, x1, hj⟩ := q
        refine ⟨⟨_, rfl, ?_⟩, F1, H1, I1, x1⟩
        rw [List.size_toArray, List.size_toArray, l1, l2, beq_iff_eq]
        rw [List.size_toArray, List.size_toArray, l1, l2] at hj
        refine ⟨fun z => ?_, fun z => by rw [Dat.tup.inj z]⟩
        congr 1
        refine List.ext_getElem? fun j => ?_
        by_cases lt : j < ds.length
        · exact hj j (by omega)
        · rw [List.getElem?_eq_none (by omega), List.getElem?_eq_none (by omega)]
      · obtain ⟨F1, H1, I1, x1, hj⟩ := q
        exact ⟨⟨false, rfl, (fun z => by cases z), fun z => absurd (Dat.tup.inj z) hj⟩, F1, H1, I1, x1⟩
/-- objects of one class, by its own == -/
def objS (c : Nat) (asp : ASp) : Dat → Dat → Prop := fun d e => (∃ ds es, d = .obj c ds ∧ e = .obj c es) ∧ asp [d, e] fun z => ∃ b, z = .bl b ∧ (b = true ↔ d = e)
theorem objS_ref {c : Nat} {asp : ASp} : ∀ d e, objS c asp d e → refD d ∧ refD e := fun d e ⟨⟨ds, es, h1, h2⟩, _⟩ => by
  subst h1 h2
  exact ⟨trivial, trivial⟩
theorem RcS.obj {CX : CXT} {c : Nat} {asp : ASp} {f : Addr} {fd : FuncData} {ps : List Str} {E : XK} (Fn : FnOk X.prog X.w X.K X.mg X.base CX n f fd ps (toSp X.K ca asp))
    (hs : PySem.W.findIn X.K (.ref (ca c)) "__eq__" = some (some (.ref f))) (hf : PySem.W.isFn X.K (.ref f) = true) (hb : Binds X.K fd ps []) (hx : Passes CX X E) : RcS X ca n (objS c asp) := by
  intro po A pins s σ F H x y d e u v sb I rx ry ok r1 r2 hS
  obtain ⟨⟨ds, es, rfl, rfl⟩, ha⟩ := hS
  cases r1 with
  | @obj a dx _ fs _ fa hA rf no =>
    cases r2 with
    | @obj b dy _ gs _ fb hB rg no2 =>
      cases rx
      cases ry
      obtain ⟨mA, J, _⟩ := ins_get I.hok hA
      obtain ⟨mB, J', _⟩ := ins_get I.hok hB
      obtain ⟨od, J, _⟩ := J.look
      obtain ⟨od', J', _⟩ := J'.look
      obtain ⟨m, hF⟩ := I.fr
      refine PySem.W.cmp_K (op := .Eq) (tb := .ref (ca c)) sb.room.units0 hF I.ok.mod.kin J J'.type (by simp [PySem.W.notFirst]) hs hf ?_
      have hsp : toSp X.K ca asp [.ref a, .ref b] H (fun v H' => (∃ b, v = .bl b ∧ (b = true ↔ Dat.obj c ds = Dat.obj c es)) ∧ ∃ F', Ext ⟨X.K, ca, po⟩ F H F' H') E := ⟨po, F, _, _, ok, .cons (.obj fa hA rf no) (.cons (.obj fb hB rg no2) .nil), ha, fun d F' H' v ⟨b, hb, p⟩ x r => by
        subst hb
        cases r
        exact ⟨⟨b, rfl, p⟩, F', x⟩⟩
      have e0 : Env0 X.prog X.w X.K X.mg X.base A X.stack s H := by
        have e := I.env0
        exact ⟨by rw [sb.fr]; exact e.frames, e.mod, e.bs, e.bsz, e.funs, e.frf, e.hok, e.bare⟩
      have hl := Fn.len _ _ _ _ hsp
      have r2 : Vals [V.ref a, V.ref b] [Value.ref a, Value.ref b] := .cons rfl (.cons rfl .nil)
      refine wpAny_call (codeAny_mono (Fn.run A X.stack s H ⟨[.ref a, .ref b], []⟩ [.ref a, .ref b] [.ref a, .ref b] _ E sb.room e0 (by
        have := hb s [.ref a, .ref b] I.kIn (by simpa using hl)
        simpa using this) r2 hsp) fun r s' hq => ?_)
      cases r with
      | error e => exact hx pins σ H s e s' I hq
      | ok fl =>
        cases fl with
        | ret w =>
          obtain ⟨z, H', I', rz, ⟨c, ez, hc⟩, F', ex⟩ := I.after hq
          subst ez
          cases rz
          exact ⟨⟨c, rfl, hc⟩, F', H', I', ex⟩
        | next => exact False.elim hq
        | brk => exact False.elim hq
        | cont => exact False.elim hq
theorem EqS.mono {m : Nat} (h : EqS X ca n S) (hn : n ≤ m) : EqS X ca m S := fun po A pins s σ F H x y d e u v sb => h po A pins s σ F H x y d e u v (sb.mono hn)
theorem RcS.mono {m : Nat} (h : RcS X ca n S) (hn : n ≤ m) : RcS X ca m S := fun po A pins s σ F H x y d e u v sb => h po A pins s σ F H x y d e u v (sb.mono hn)
end
def rEqS (K : PySem.W.Frag) (ca : Nat → Addr) (S : Dat → Dat → Prop) : R2 := fun x y H Q => ∃ (po : Option (Addr × Addr)) (F : Addr → Prop) (d e : Dat), Okk ⟨K, ca, po⟩ F H ∧ Rv ⟨K, ca, po⟩ F H x d ∧ Rv ⟨K, ca, po⟩ F H y e ∧ S d e ∧ ∀ (b : Bool) F' H', (b = true ↔ d = e) → Ext ⟨K, ca, po⟩ F H F' H' → Q (.bl b) H'
theorem op_eqS {X : Cx} {ca : Nat → Addr} {n : Nat} {S : Dat → Dat → Prop} (h : RcS X ca n S) (hr : Room n X.A) : OpR X (compareOp .Eq) (rEqS X.K ca S) := by
  intro pins s σ H x y v u Q I rx ry hq
  obtain ⟨po, F, d, e, ok, r1, r2, hs, q⟩ := hq
  show wpAny (model X.prog X.w) X.A (richCompare .Eq v u) (EP X pins σ Q) X.xe s
  refine wpAny_mono (h po X.A pins s σ F H x y d e v u ⟨hr, rfl⟩ I rx ry ok r1 r2 hs) (fun r s' z => ?_) fun _ _ x => x
  obtain ⟨⟨b, hr', hb⟩, F', H', I', ex⟩ := z
  subst hr'
  exact ⟨.bl b, H', I', rfl, q b F' H' hb ex⟩
def kEqS (S : Dat → Dat → Prop) : Dat → Dat → (Dat → Prop) → Prop := fun d e P => S d e ∧ ∀ b : Bool, (b = true ↔ d = e) → P (.bl b)
theorem rok_eqS {K : PySem.W.Frag} {ca : Nat → Addr} {po : Option (Addr × Addr)} {S : Dat → Dat → Prop} : ROk ⟨K, ca, po⟩ Rv Rv Rv (rEqS K ca S) (kEqS S) := fun F H x y d e Q P ok r1 r2 q k =>
  ⟨po, F, d, e, ok, r1, r2, q.1, fun b F' H' hb ex => k _ F' H' _ (q.2 b hb) ex (.bl b)⟩

theorem FzT.fn {W : Wd} {F : Addr → Prop} {H : Hp} {a : Addr} {vs ws : List V} (hA : FzT W F H a vs) (hB : FzT W F H a ws) : vs = ws := by
  obtain ⟨_, o, e1, t1⟩ := hA
  obtain ⟨_, o2, e2, t2⟩ := hB
  rw [e1] at e2
  cases e2
  obtain ⟨_, _, rfl⟩ := t1
  obtain ⟨_, _, h2⟩ := t2
  cases h2
  rfl
mutual
theorem lay_uq {W : Wd} {F : Addr → Prop} {H : Hp} : ∀ {v : V} {d e : Dat}, Rv W F H v d → Rv W F H v e → layD d = true → layD e = true → d = e
  | _, _, _, .non, r, _, h2 => by cases r; rfl
  | _, _, _, .int i, r, _, h2 => by cases r; rfl
  | _, _, _, .str x, r, _, h2 => by cases r; rfl
  | _, _, _, .lst f h rr, r, h1, h2 => by
    cases r with
    | lst f2 h2' qq =>
      rw [h] at h2'
      cases h2'
      rw [layAll_uq rr qq h1 h2]
    | tup hB qq =>
      obtain ⟨_, o, e, _, _, rfl⟩ := hB
      rw [h] at e
      cases e
    | _ => cases h2
  | _, _, _, .tup hA rr, r, h1, h2 => by
    cases r with
    | lst f2 h2' qq =>
      obtain ⟨_, o, e, _, _, rfl⟩ := hA
      rw [h2'] at e
      cases e
    | tup hB qq =>
      cases hA.fn hB
      rw [layAll_uq rr qq h1 h2]
    | _ => cases h2
  | _, _, _, .bl _, _, h1, _ => by cases h1
  | _, _, _, .pool _, _, h1, _ => by cases h1
  | _, _, _, .obj _ _ _ _, _, h1, _ => by cases h1
  | _, _, _, .dK _ _ _, _, h1, _ => by cases h1
  | _, _, _, .cell _, _, h1, _ => by cases h1
theorem layAll_uq {W : Wd} {F : Addr → Prop} {H : Hp} : ∀ {vs : List V} {ds es : List Dat}, RvAll W F H vs ds → RvAll W F H vs es → layAll ds = true → layAll es = true → ds = es
  | _, _, _, .nil, .nil, _, _ => rfl
  | _, _, _, .cons a r, .cons b q, h1, h2 => by
    have h1 : (_ && _) = true := h1
    have h2 : (_ && _) = true := h2
    rw [Bool.and_eq_true] at h1 h2
    rw [lay_uq a b h1.1 h2.1, layAll_uq r q h1.2 h2.2]
end
theorem fn_un {P : Program} {w : World} {K : PySem.W.Frag} {mg : Str → Option Value} {base : Heap} {CX : CXT} {k : Nat} {f : Addr} {fd : FuncData} {ps : List Str} {ca : Nat → Addr} {κ : Type} {asp : κ → ASp} (h : ∀ i, FnOk P w K mg base CX k f fd ps (toSp K ca (asp i))) : FnOk P w K mg base CX k f fd ps (toSp K ca fun ds P => ∃ i, asp i ds P) := by
  refine ⟨fun vs H Q E q => ?_, fun A outer s H cl vs us Q E rm e0 hb rv q => ?_⟩
  · obtain ⟨i, q⟩ := sp_ex q
    exact (h i).len vs H Q E q
  · obtain ⟨i, q⟩ := sp_ex q
    exact (h i).run A outer s H cl vs us Q E rm e0 hb rv q
/-- c in xs, of bools -/
def kInB (n : Bool) : Dat → Dat → (Dat → Prop) → Prop := fun x y P => ∃ (c : Bool) (bs : List Bool), x = .bl c ∧ y = .lst (bs.map .bl) ∧ P (.bl (if n then !bs.contains c else bs.contains c))
theorem inV_bls (c : Bool) : ∀ bs : List Bool, inV (.bl c) (bs.map V.bl) = bs.contains c
  | [] => rfl
  | b :: bs => by
    have ih := inV_bls c bs
    unfold inV at ih ⊢
    rw [List.map_cons, List.any_cons, ih, List.contains_cons]
    congr 1
    show (b == c) = (c == b)
    cases b <;> cases c <;> rfl
theorem flat_bls (bs : List Bool) : (bs.map V.bl).all flatV = true := by
  rw [List.all_eq_true]
  intro v hv
  obtain ⟨b, _, rfl⟩ := List.mem_map.mp hv
  rfl
theorem rok_inB {W : Wd} {n : Bool} : ROk W Rv Pk Rv (rIn W.K n) (kInB n) := fun F H x y d e Q P ok r1 r2 q k => by
  obtain ⟨c, bs, rfl, rfl, p⟩ := q
  cases r1
  obtain ⟨a, vs, rfl, h, np, rr⟩ := r2.lst ok
  have e := rr.bls
  subst e
  refine ⟨a, _, rfl, .inl (SqL.of h), rfl, flat_bls bs, ?_⟩
  rw [inV_bls]
  cases n with
  | true => exact k _ F H _ p (.refl ok) (.bl _)
  | false => exact k _ F H _ p (.refl ok) (.bl _)

def top (i : Nat) : Stmt := PySem.Challenge.pw_vouchdoor_k13_replies_that_do_not_fit.main.body.getD i (.Pass ⟨0, 0, 0, 0⟩)
local macro_rules | `(tactic| walk_at "hp") => `(tactic| first
  | (with_reducible assumption)
  | exact upd_same
  | (refine (upd_ne (by with_reducible assumption)).trans ?_; walk_at "hp"))
local macro_rules | `(tactic| walk_at "kit") => `(tactic| first
  | with_reducible exact kit_NoneType_tuple
  | with_reducible exact kit_NoneType_list
  | with_reducible exact kit_NoneType_bool
  | with_reducible exact kit_NoneType_int
  | with_reducible exact kit_NoneType_str
  | with_reducible exact kit_bool_tuple
  | with_reducible exact kit_bool_list
  | with_reducible exact kit_bool_bool
  | with_reducible exact kit_bool_int
  | with_reducible exact kit_bool_str
  | with_reducible exact kit_int_tuple
  | with_reducible exact kit_int_list
  | with_reducible exact kit_int_bool
  | with_reducible exact kit_int_int
  | with_reducible exact kit_int_str
  | with_reducible exact kit_str_tuple
  | with_reducible exact kit_str_list
  | with_reducible exact kit_str_bool
  | with_reducible exact kit_str_int
  | with_reducible exact kit_str_str
  | with_reducible exact kit_list_tuple
  | with_reducible exact kit_list_list
  | with_reducible exact kit_list_bool
  | with_reducible exact kit_list_int
  | with_reducible exact kit_list_str
  | with_reducible exact kit_tuple_tuple
  | with_reducible exact kit_tuple_list
  | with_reducible exact kit_tuple_bool
  | with_reducible exact kit_tuple_int
  | with_reducible exact kit_tuple_str)
local macro_rules | `(tactic| walk_at "ty") => `(tactic| first
  | with_reducible exact .base .non
  | with_reducible exact .base (.bl _)
  | with_reducible exact .base (.int _)
  | with_reducible exact .base (.str _)
  | exact .base (.lst (by walk_at "hp"))
  | exact .base (.tup (by walk_at "hp")))
local macro_rules | `(tactic| walk_at "sq") => `(tactic| first
  | (with_reducible assumption)
  | exact SqL.of (by walk_at "hp")
  | exact SqT.of (by walk_at "hp")
  | ((with_reducible refine (?_ : SqL _ _ _ _)); assumption)
  | ((with_reducible refine (?_ : SqT _ _ _ _)); assumption))
local macro_rules | `(tactic| walk_at "eq") => `(tactic| ((with_reducible refine (?_ : @Eq _ _ _)); rfl))
local macro_rules | `(tactic| walk_at "side") => `(tactic| first
  | (with_reducible assumption)
  | walk_at "eq"
  | ((with_reducible refine (?_ : _ ≤ sizeLine)); exact Nat.le_of_ble_eq_true rfl)
  | omega
  | (show (0 : Int) < _; omega)
  | ((with_reducible refine (?_ : SqL _ _ _ _)); walk_at "sq")
  | ((with_reducible refine (?_ : SqT _ _ _ _)); walk_at "sq")
  | ((with_reducible refine (?_ : _ = some _)); walk_at "hp")
  | ((with_reducible refine (?_ : tyV _ _ _ _)); exact Or.inl ⟨rfl, _, SqL.of (by walk_at "hp")⟩)
  | exact flat_ints _
  | ((with_reducible refine (?_ : Cls _ _)); assumption)
  | ((with_reducible refine (?_ : NoAttr _ _ _)); assumption)
  | ((with_reducible refine (?_ : List.length _ < 1000)); exact Nat.le_of_ble_eq_true rfl)
  | exact ⟨_, SqL.of (by walk_at "hp")⟩
  | exact ⟨_, SqT.of (by walk_at "hp")⟩
  | (show CMul _ _; first | (exact Or.inl ⟨by omega, by omega⟩) | (exact Or.inr ⟨by omega, by omega⟩))
  | (show CDiv _ _; exact ⟨by omega, by omega⟩)
  | (show CPow _ _; exact ⟨by decide, by decide, by decide⟩))
local macro_rules | `(tactic| walk_at "size") => `(tactic| exact len_size (by (try rw [List.length_map]); omega))
local macro_rules | `(tactic| walk_at "s") => `(tactic| first
  | refine ⟨propOnly (by walk_at "side"), ?_⟩
  | refine ⟨_, (by walk_at "eq"), ?_⟩
  | refine ⟨_, _, (by walk_at "eq"), (by walk_at "eq"), ?_⟩
  | refine ⟨_, _, (by walk_at "eq"), propOnly (by walk_at "side"), ?_⟩
  | refine ⟨_, _, (by walk_at "eq"), ?_⟩
  | refine ⟨_, _, _, _, (by walk_at "eq"), (by walk_at "eq"), (by walk_at "sq"), (by walk_at "eq"), ?_⟩
  | refine ⟨_, _, _, _, (by walk_at "eq"), (by walk_at "eq"), (by walk_at "hp"), (by walk_at "eq"), ?_⟩
  | refine ⟨_, _, (by walk_at "eq"), .inl (by walk_at "sq"), ?_⟩
  | refine ⟨_, _, (by walk_at "eq"), .inr (by walk_at "sq"), ?_⟩
  | refine ⟨_, _, _, _, _, (by walk_at "eq"), .ty _, (by walk_at "ty"), (by walk_at "kit"), ?_⟩
  | refine Or.inl ⟨_, (by walk_at "eq"), ?_⟩
  | refine ⟨_, _, _, (by walk_at "eq"), (by walk_at "eq"), (by walk_at "hp"), propOnly (by walk_at "size"), ?_⟩
  | refine ⟨_, _, _, (by walk_at "eq"), propOnly (by walk_at "side"), ?_⟩
  | refine ⟨_, _, _, _, (by walk_at "eq"), propOnly (by walk_at "side"), ?_⟩
  | refine ⟨_, _, _, _, _, (by walk_at "eq"), propOnly (by walk_at "side"), ?_⟩
  | refine ⟨_, _, _, _, _, _, (by walk_at "eq"), propOnly (by walk_at "side"), ?_⟩
  | refine ⟨_, _, _, (by walk_at "eq"), ?_⟩
  | refine ⟨_, _, _, _, (by walk_at "eq"), ?_⟩
  | ((with_reducible refine iteCT ?hc ?hr); case hc => rfl)
  | ((with_reducible refine iteCF ?hc ?hr); case hc => rfl))
local macro_rules | `(tactic| walk_at "go") => `(tactic| repeat walk_at "s")


/-! ### power, is_prime, inverse -/
abbrev s_is_prime : Stmt := top 2
theorem sc_is_prime : FnScope ["number", "divisor"] ["number"] (defScope s_is_prime) := ⟨rfl, rfl, rfl, by decide +kernel, rfl, by decide +kernel, by decide +kernel⟩
abbrev s_power : Stmt := top 3
theorem sc_power : FnScope ["base", "exponent", "modulus", "result", "square", "left"] ["base", "exponent", "modulus"] (defScope s_power) := ⟨rfl, rfl, rfl, by decide +kernel, rfl, by decide +kernel, by decide +kernel⟩
section
variable {P : Program} {w : World} {K : PySem.W.Frag} {mg : Str → Option Value} {base : Heap}
def Pr (n : Int) : Prop := 2 ≤ n ∧ ∀ d : Int, 2 ≤ d → d * d ≤ n → n % d ≠ 0
def spPower : Sp := fun vs H Q _ => ∃ a e m : Int, vs = [.int a, .int e, .int m] ∧ 0 ≤ e ∧ 0 < m ∧ m < 2147483648 ∧ Q (.int (a ^ e.toNat % m)) H
theorem ok_power {f : Addr} {fd : FuncData} (F : Fun K "power" "power" s_power f fd) : FnOk P w K mg base CX0 1 f fd ["base", "exponent", "modulus"] spPower := by
  refine F.ok sc_power (fun vs H Q E h => ?_) (fun cdv A outer s H vs Q E hr h => ?_)
  · obtain ⟨a, e, m, rfl, _⟩ := h
    rfl
  · obtain ⟨a, e, m, rfl, he, hm, hm2, q⟩ := h
    obtain ⟨n, rfl⟩ : ∃ n : Nat, e = n := ⟨e.toNat, by omega⟩
    rw [Int.toNat_natCast] at q
    refine ⟨_, (pss_cons (ps_set (i := 3) sc_power.nd rfl (.inl rfl) (pe_op op_mod pe_int (pv 2)))
      (pss_cons (ps_set (i := 4) sc_power.nd rfl (.inl rfl) (pe_op op_mod (pv 0) (pv 2)))
      (pss_cons (ps_set (i := 5) sc_power.nd rfl (.inl rfl) (pv 1))
      (pss_cons (ps_while PassesOwn.never (pt_cmpR op_gt (pv 5) pe_int (nomark _)) (pss_cons (ps_if (pt_cmpR op_eq (pe_op op_mod (pv 5) pe_int) pe_int (nomark _)) (pss_one (ps_set (i := 3) sc_power.nd rfl (.inl rfl) (pe_op op_mod (pe_op op_mul (pv 3) (pv 4)) (pv 2)))) pss_nil)
      (pss_cons (ps_set (i := 4) sc_power.nd rfl (.inl rfl) (pe_op op_mod (pe_op op_mul (pv 4) (pv 4)) (pv 2)))
      (pss_one (ps_set (i := 5) sc_power.nd rfl (.inl rfl) (pe_op op_fdiv (pv 5) pe_int))))))
      (pss_one (ps_ret (pv 3))))))), ?_⟩
    walk_at "go"
    have b1 := emod_bd (a := 1) hm
    have b2 := emod_bd (a := a) hm
    refine ⟨fun k σ H' => At (∃ (r s : Int) (l : Nat), σ = [some (.int a), some (.int n), some (.int m), some (.int r), some (.int s), some (.int l)] ∧ H' = H ∧ 0 ≤ r ∧ r < m ∧ 0 ≤ s ∧ s < m ∧ r * s ^ l % m = a ^ n % m ∧ l = k),
      ⟨n, .of ⟨_, _, _, rfl, rfl, b1.1, b1.2, b2.1, b2.2, ?_, rfl⟩⟩, ?_⟩
    · rw [← mul_emod_r, pow_emod, mul_emod_r, mul_emod_l, Int.one_mul]
    rintro k σ H' hW
    obtain ⟨r, s, l, rfl, rfl, r0, r1, s0, s1, e, rfl⟩ := hW.out
    have b3 := emod_bd (a := r * s) hm
    have b4 := emod_bd (a := s * s) hm
    walk_at "go"
    refine iteD (fun h => ?_) (fun h => ?_)
    · refine ⟨_, fun _ _ h => h, ?_⟩
      walk_at "go"
      refine iteD (fun o => ?_) (fun o => ?_)
      · have o' : l % 2 = 1 := by
          have := V.int.inj o
          omega
        walk_at "go"
        exact ⟨l / 2, by omega, .of ⟨r * s % m, s * s % m, l / 2, rfl, rfl, b3.1, b3.2, b4.1, b4.2, power_odd e o', rfl⟩⟩
      · have o' : ¬ l % 2 = 1 := fun z => o (congrArg V.int (by omega))
        walk_at "go"
        exact ⟨l / 2, by omega, .of ⟨r, s * s % m, l / 2, rfl, rfl, r0, r1, b4.1, b4.2, power_even e o', rfl⟩⟩
    · walk_at "go"
      have : l = 0 := by omega
      subst this
      rw [Int.pow_zero, Int.mul_one, Int.emod_eq_of_lt r0 r1] at e
      rw [e]
      exact q
def spIsPrime : Sp := fun vs H Q _ => ∃ n : Int, vs = [.int n] ∧ n < 1073741824 ∧ ∀ b : Bool, (b = true ↔ Pr n) → Q (.bl b) H
theorem ok_is_prime {f : Addr} {fd : FuncData} (F : Fun K "is_prime" "is_prime" s_is_prime f fd) : FnOk P w K mg base CX0 1 f fd ["number"] spIsPrime := by
  refine F.ok sc_is_prime (fun vs H Q E h => ?_) (fun cdv A outer s H vs Q E hr h => ?_)
  · obtain ⟨n, rfl, _⟩ := h
    rfl
  · obtain ⟨n, rfl, hn, q⟩ := h
    refine ⟨_, (pss_cons (ps_if (pt_cmpR op_lt (pv 0) pe_int (nomark _)) (pss_one (ps_ret pe_bl)) pss_nil)
      (pss_cons (ps_set (i := 1) sc_is_prime.nd rfl (.inl rfl) pe_int)
      (pss_cons (ps_while PassesOwn.never (pt_cmpR op_le (pe_op op_mul (pv 1) (pv 1)) (pv 0) (nomark _)) (pss_cons (ps_if (pt_cmpR op_eq (pe_op op_mod (pv 0) (pv 1)) pe_int (nomark _)) (pss_one (ps_ret pe_bl)) pss_nil)
      (pss_one (ps_aug (i := 1) sc_is_prime.nd rfl (.inl rfl) (pe_ifExp (pt_cmpR op_eq (pv 1) pe_int (nomark _)) pe_int pe_int) ip_add))))
      (pss_one (ps_ret pe_bl))))), ?_⟩
    walk_at "go"
    refine iteD (fun c => ?_) (fun c => ?_)
    · walk_at "go"
      exact q _ ⟨fun z => (by cases z), fun z => absurd z.1 (by omega)⟩
    walk_at "go"
    refine ⟨fun k σ H' => At (∃ d : Int, σ = [some (.int n), some (.int d)] ∧ H' = H ∧ 2 ≤ d ∧ (d = 2 ∨ d % 2 = 1) ∧ d ≤ n + 2 ∧ (∀ e : Int, 2 ≤ e → e < d → n % e ≠ 0) ∧ (n + 2 - d).toNat = k),
      ⟨_, .of ⟨2, rfl, rfl, by omega, .inl rfl, by omega, fun e h1 h2 => by omega, rfl⟩⟩, ?_⟩
    rintro k σ H' hW
    obtain ⟨d, rfl, rfl, h2, par, dn, hd, hk⟩ := hW.out
    walk_at "go"
    refine iteD (fun h => ?_) (fun h => ?_)
    · have dle : d ≤ n := by
        have := Int.mul_le_mul_of_nonneg_right h2 (show (0 : Int) ≤ d by omega)
        omega
      refine ⟨_, fun _ _ h => h, ?_⟩
      walk_at "go"
      refine iteD (fun o => ?_) (fun o => ?_)
      · walk_at "go"
        exact q _ ⟨fun z => (by cases z), fun z => absurd (V.int.inj o) (z.2 d h2 h)⟩
      · have o' : n % d ≠ 0 := fun z => o (congrArg V.int z)
        walk_at "go"
        refine iteD (fun c2 => ?_) (fun c2 => ?_)
        · have c2' : d = 2 := V.int.inj c2
          walk_at "go"
          refine ⟨(n + 2 - (d + 1)).toNat, by omega, .of ⟨d + 1, rfl, rfl, by omega, by omega, by omega, fun e h1 h2 => ?_, rfl⟩⟩
          have : e = d := by omega
          subst this
          exact o'
        · have c2' : d ≠ 2 := fun z => c2 (congrArg V.int z)
          walk_at "go"
          refine ⟨(n + 2 - (d + 2)).toNat, by omega, .of ⟨d + 2, rfl, rfl, by omega, by omega, by omega, fun e h1 h2 => ?_, rfl⟩⟩
          by_cases e1 : e < d
          · exact hd e h1 e1
          · by_cases e2 : e = d
            · subst e2
              exact o'
            · have e3 : e % 2 = 0 := by omega
              refine fun z => hd 2 (by omega) (by omega) ?_
              have := Int.dvd_trans (Int.dvd_of_emod_eq_zero e3) (Int.dvd_of_emod_eq_zero z)
              exact Int.emod_eq_zero_of_dvd this
    · walk_at "go"
      refine q _ ⟨fun _ => ⟨by omega, fun e h1 h3 => ?_⟩, fun _ => rfl⟩
      by_cases e1 : e < d
      · exact hd e h1 e1
      · have := Int.mul_le_mul (show d ≤ e by omega) (show d ≤ e by omega) (by omega) (by omega)
        omega
end

abbrev s__law_draw : Stmt := top 31
theorem sc__law_draw : FnScope ["pool", "size", "cell", "value"] ["pool", "size"] (defScope s__law_draw) := ⟨rfl, rfl, rfl, by decide +kernel, rfl, by decide +kernel, by decide +kernel⟩
/-! ### the draw again, with the pool told -/
def KeepP (p : Addr) (H H' : Hp) : Prop := ∀ b o, b ≠ p → H b = some o → H' b = some o
theorem KeepP.refl (p : Addr) (H : Hp) : KeepP p H H := fun _ _ _ h => h
theorem keepP_pool {H0 H : Hp} {p : Addr} {o u : HO} (s : KeepP p H0 H) (_h : H0 p = some u) (_hu : poolO u = true) : KeepP p H0 (upd H p o) := fun b x n e => by
  rw [upd_ne n]
  exact s b x n e
section
variable {P : Program} {w : World} {K : PySem.W.Frag} {mg : Str → Option Value} {base : Heap}
def spDrawP : Sp := fun vs H Q _ => ∃ (p c : Addr) (n : Int), vs = [.ref p, .int n] ∧ PoolAt H p c ∧ 0 < n ∧ n < 1073741824 ∧
  ∀ v H', 0 ≤ v → v < n → PoolAt H' p c → KeepP p H H' → Q (.int v) H'
set_option maxHeartbeats 1000000 in
theorem ok_law_drawP {f : Addr} {fd : FuncData} (F : Fun K "_law_draw" "_law_draw" s__law_draw f fd) (B : Blt mg) : FnOk P w K mg base CX0 1 f fd ["pool", "size"] spDrawP := by
  refine F.ok sc__law_draw (fun vs H Q E h => ?_) (fun cdv A outer s H vs Q E hr h => ?_)
  · obtain ⟨p, c, n, rfl, _⟩ := h
    rfl
  · obtain ⟨p, c, n, rfl, ⟨ns, i, m, t, b, z, h1, h2, i0, t0, t1⟩, n0, n1, q⟩ := h
    have hu := hu_of hr
    refine ⟨_, (C8.pss_cut (ps_if (PW.pt (pw_and (pt_cmpR op_le (pe_ix (kixl (K := K) rfl) (pv 0) pe_int (fun _ _ => rfl)) pe_int (nomark _)) (pw_and (pt_cmpR op_le (pe_ix (kixl (K := K) rfl) (pv 0) pe_int (fun _ _ => rfl)) pe_int (nomark _)) (pw_and1 (pt_cmpR op_lt (pe_ix (kixl (K := K) rfl) (pv 0) pe_int (fun _ _ => rfl)) (pe_callB (klen (K := K) rfl) (by rfl) B.len bt_len (pa_cons (pe_ix (kixl (K := K) rfl) (pv 0) pe_int (fun _ _ => rfl)) pa_nil)) (nomark _)))))) (pss_cons (ps_set (i := 2) sc__law_draw.nd rfl (.inl rfl) (pe_ix (kixl (K := K) rfl) (pe_ix (kixl (K := K) rfl) (pv 0) pe_int (fun _ _ => rfl)) (pe_ix (kixl (K := K) rfl) (pv 0) pe_int (fun _ _ => rfl)) (fun _ _ => rfl)))
      (pss_cons (ps_asg (pe_op op_add (pe_ix (kixl (K := K) rfl) (pv 0) pe_int (fun _ _ => rfl)) pe_int) (pg_sub (pv 0) pe_int set_list))
      (pss_cons (ps_asg (pe_op op_mod (pe_callTy call_int1 (by rfl) B.int bt_int (pa_cons (pe_op op_add (pe_op op_mul (pe_ix (kixl (K := K) rfl) (pv 0) pe_int (fun _ _ => rfl)) pe_int) (pv 2)) pa_nil)) pe_int) (pg_sub (pv 0) pe_int set_list))
      (pss_cons (ps_asg pe_int (pg_sub (pv 0) pe_int set_list))
      (pss_one (ps_if (pt_cmpR op_ge (pv 2) (pe_op op_pow pe_int pe_int) (nomark _)) (pss_one (ps_asg (pv 2) (pg_sub (pv 0) pe_int set_list))) pss_nil)))))) pss_nil)
      (pss_cons (ps_if (pt_cmpR op_gt (pe_ix (kixl (K := K) rfl) (pv 0) pe_int (fun _ _ => rfl)) pe_int (nomark _)) (pss_cons (ps_set (i := 3) sc__law_draw.nd rfl (.inl rfl) (pe_op op_mod (pe_callTy call_int1 (by rfl) B.int bt_int (pa_cons (pe_ix (kixl (K := K) rfl) (pv 0) pe_int (fun _ _ => rfl)) pa_nil)) (pv 1)))
      (pss_cons (ps_asg (pe_op op_fdiv (pe_ix (kixl (K := K) rfl) (pv 0) pe_int (fun _ _ => rfl)) (pv 1)) (pg_sub (pv 0) pe_int set_list))
      (pss_cons (ps_asg pe_int (pg_sub (pv 0) pe_int set_list))
      (pss_one (ps_ret (pv 3)))))) pss_nil)
      (pss_cons (ps_asg (pe_op op_sub (pe_ix (kixl (K := K) rfl) (pv 0) pe_int (fun _ _ => rfl)) pe_int) (pg_sub (pv 0) pe_int set_list))
      (pss_cons (ps_asg (pe_op op_mod (pe_callTy call_int1 (by rfl) B.int bt_int (pa_cons (pe_op op_add (pe_op op_mul (pe_ix (kixl (K := K) rfl) (pv 0) pe_int (fun _ _ => rfl)) pe_int) pe_int) pa_nil)) pe_int) (pg_sub (pv 0) pe_int set_list))
      (pss_one (ps_ret (pe_op op_mod (pe_op op_mod (pe_callTy call_int1 (by rfl) B.int bt_int (pa_cons (pe_op op_add (pe_op op_mul (pe_ix (kixl (K := K) rfl) (pv 0) pe_int (fun _ _ => rfl)) pe_int) pe_int) pa_nil)) pe_int) (pv 1)))))))), ?_⟩
    have ncp : c ≠ p := fun e => by
      rw [e, h1] at h2
      cases ns with
      | nil => cases h2
      | cons y ys => cases h2
    refine ⟨fun σ' H' => At (∃ (x : Option V) (i m t b : Int), σ' = [some (.ref p), some (.int n), x, none] ∧ H' p = some (.lst [.ref c, .int i, .int m, .int t, .int b, .int z]) ∧ H' c = some (.lst (ns.map V.int)) ∧ 0 ≤ i ∧ 0 ≤ t ∧ t < 2147483647 ∧ KeepP p H H'), ?_, ?_⟩
    · have out : ∃ (x : Option V) (i m t b : Int), (L2.start ["pool", "size", "cell", "value"] [.ref p, .int n]) = [some (.ref p), some (.int n), x, none] ∧ H p = some (.lst [.ref c, .int i, .int m, .int t, .int b, .int z]) ∧ H c = some (.lst (ns.map V.int)) ∧ 0 ≤ i ∧ 0 ≤ t ∧ t < 2147483647 ∧ KeepP p H H :=
        ⟨none, i, m, t, b, rfl, h1, h2, i0, t0, t1, KeepP.refl p H⟩
      walk_at "go"
      refine iteD (fun c1 => ?_) (fun c1 => ?_)
      · walk_at "go"
        refine iteD (fun c2 => ?_) (fun c2 => ?_)
        · walk_at "go"
          refine iteD (fun c3 => ?_) (fun c3 => ?_)
          · have c3' : i < (ns.length : Int) := by
              rw [List.length_map] at c3
              exact c3
            obtain ⟨y, ha⟩ : ∃ y, atI (ns.map V.int) i = some (.int y) := by
              have hlt : i.toNat < ns.length := by omega
              refine ⟨ns[i.toNat], at_of (j := i.toNat) (by omega) ?_⟩
              rw [List.getElem?_map, List.getElem?_eq_getElem hlt]
              rfl
            walk_at "go"
            refine ⟨_, _, _, _, rfl, rfl, SqL.of h2, ha, ?_⟩
            walk_at "go"
            have fin : ∀ (mm : Int) (H' : Hp) (hp : H' p = some (.lst [.ref c, .int (i + 1), .int mm, .int ((t * 31 + y) % 2147483647), .int 7, .int z])) (hc : H' c = some (.lst (ns.map V.int))) (hk : KeepP p H H'),
                ∃ (x : Option V) (i m t b : Int), ((L2.start ["pool", "size", "cell", "value"] [.ref p, .int n]).set 2 (some (V.int y))) = [some (.ref p), some (.int n), x, none] ∧ H' p = some (.lst [.ref c, .int i, .int m, .int t, .int b, .int z]) ∧ H' c = some (.lst (ns.map V.int)) ∧ 0 ≤ i ∧ 0 ≤ t ∧ t < 2147483647 ∧ KeepP p H H' :=
              fun mm H' hp hc hk => ⟨_, i + 1, mm, _, 7, rfl, hp, hc, by omega, by omega, by omega, hk⟩
            refine iteD (fun c4 => ?_) (fun c4 => ?_)
            · walk_at "go"
              exact .of (fin _ _ upd_same (by rw [upd_ne ncp, upd_ne ncp, upd_ne ncp, upd_ne ncp]; exact h2) (keepP_pool (keepP_pool (keepP_pool (keepP_pool (KeepP.refl p H) h1 rfl) h1 rfl) h1 rfl) h1 rfl))
            · walk_at "go"
              exact .of (fin _ _ upd_same (by rw [upd_ne ncp, upd_ne ncp, upd_ne ncp]; exact h2) (keepP_pool (keepP_pool (keepP_pool (KeepP.refl p H) h1 rfl) h1 rfl) h1 rfl))
          · walk_at "go"
            exact .of out
        · walk_at "go"
          exact .of out
      · walk_at "go"
        exact .of out
    · intro σ' H' hW
      obtain ⟨x, i, m, t, b, rfl, h1', h2', i0, t0, t1, hk⟩ := hW.out
      have fin : ∀ (v : Int) (mm tt bb : Int) (H2 : Hp), 0 ≤ v → v < n → H2 p = some (.lst [.ref c, .int i, .int mm, .int tt, .int bb, .int z]) → H2 c = some (.lst (ns.map V.int)) → 0 ≤ tt → tt < 2147483647 → KeepP p H H2 → Q (.int v) H2 :=
        fun v mm tt bb H2 v0 v1 a1 a2 a3 a4 a5 => q v H2 v0 v1 ⟨ns, i, mm, tt, bb, z, a1, a2, i0, a3, a4⟩ a5
      walk_at "go"
      refine iteD (fun c1 => ?_) (fun c1 => ?_)
      · walk_at "go"
        exact fin _ _ _ _ _ (Int.emod_nonneg _ (by omega)) (Int.emod_lt_of_pos _ n0) upd_same (by rw [upd_ne ncp, upd_ne ncp]; exact h2') t0 t1 (keepP_pool (keepP_pool hk h1 rfl) h1 rfl)
      · walk_at "go"
        exact fin _ _ _ _ _ (Int.emod_nonneg _ (by omega)) (Int.emod_lt_of_pos _ n0) upd_same (by rw [upd_ne ncp, upd_ne ncp]; exact h2') (by omega) (by omega) (keepP_pool (keepP_pool hk h1 rfl) h1 rfl)
end

local macro_rules | `(tactic| walk_at "sd") => `(tactic| first
  | (with_reducible assumption)
  | rfl
  | omega
  | (show CMul _ _; first | (exact Or.inl ⟨by omega, by omega⟩) | (exact Or.inr ⟨by omega, by omega⟩))
  | (show CDiv _ _; exact ⟨by omega, by omega⟩)
  | (show CPow _ _; exact ⟨by decide, by decide, by decide⟩)
  | (show (0 : Int) < _; omega))
local macro_rules | `(tactic| walk_at "nf") => `(tactic| simp only [List.map_cons, List.map_nil, List.cons_append, List.nil_append, List.length_cons, List.length_nil, Nat.reduceAdd, Nat.reduceSub, List.replicate_succ, List.replicate_zero, List.set_cons_zero, List.set_cons_succ, gA])

/-! ### groups -/
abbrev s_Group___init__ : Stmt := inClass (top 25) 0
theorem sc_Group___init__ : FnScope ["self", "p", "q", "bases"] ["self", "p", "q", "bases"] (defScope s_Group___init__) := ⟨rfl, rfl, rfl, by decide +kernel, rfl, by decide +kernel, by decide +kernel⟩
abbrev s_Group_raised : Stmt := inClass (top 25) 3
theorem sc_Group_raised : FnScope ["self", "element", "exponent"] ["self", "element", "exponent"] (defScope s_Group_raised) := ⟨rfl, rfl, rfl, by decide +kernel, rfl, by decide +kernel, by decide +kernel⟩
abbrev s_Group_product : Stmt := inClass (top 25) 4
theorem sc_Group_product : FnScope ["self", "pairs", "result", "element", "exponent"] ["self", "pairs"] (defScope s_Group_product) := ⟨rfl, rfl, rfl, by decide +kernel, rfl, by decide +kernel, by decide +kernel⟩
abbrev s__is_root : Stmt := top 26
theorem sc__is_root : FnScope ["p", "q", "number"] ["p", "q", "number"] (defScope s__is_root) := ⟨rfl, rfl, rfl, by decide +kernel, rfl, by decide +kernel, by decide +kernel⟩
abbrev s__check_primes : Stmt := top 27
theorem sc__check_primes : FnScope ["p", "q"] ["p", "q"] (defScope s__check_primes) := ⟨rfl, rfl, rfl, by decide +kernel, rfl, by decide +kernel, by decide +kernel⟩
abbrev s__check_bases : Stmt := top 28
theorem sc__check_bases : FnScope ["p", "q", "bases", "index", "base"] ["p", "q", "bases"] (defScope s__check_bases) := ⟨rfl, rfl, rfl, by decide +kernel, rfl, by decide +kernel, by decide +kernel⟩
structure Glb (mg : Str → Option Value) : Prop where
  SMALLEST_P : ∃ t, mg "SMALLEST_P" = some (.int 3 t)
  LARGEST_P : ∃ t, mg "LARGEST_P" = some (.int 1000000 t)
  FEWEST_BASES : ∃ t, mg "FEWEST_BASES" = some (.int 2 t)
  MOST_BASES : ∃ t, mg "MOST_BASES" = some (.int 12 t)
section
variable {P : Program} {w : World} {K : PySem.W.Frag} {mg : Str → Option Value} {base : Heap}
def rz (p q e k : Int) : Int := e ^ (k % q).toNat % p
def prF (p q : Int) : Int → List (Int × Int) → Int
  | a, [] => a
  | a, (e, k) :: r => prF p q (a * rz p q e k % p) r
def prZ (p q : Int) (l : List (Int × Int)) : Int := prF p q 1 l
theorem prF_snoc (p q : Int) : ∀ (l : List (Int × Int)) (a e k : Int), prF p q a (l ++ [(e, k)]) = prF p q a l * rz p q e k % p
  | [], _, _, _ => rfl
  | (e', k') :: r, a, e, k => prF_snoc p q r _ e k
theorem prF_bd {p q : Int} (h : 1 < p) : ∀ (l : List (Int × Int)) (a : Int), 0 ≤ a → a < p → 0 ≤ prF p q a l ∧ prF p q a l < p
  | [], a, h0, h1 => ⟨h0, h1⟩
  | (e, k) :: r, a, h0, h1 => by
    have := emod_bd (a := a * rz p q e k) (m := p) (by omega)
    exact prF_bd h r _ this.1 this.2
/-- e is an element, worked out -/
def El (p q n : Int) : Prop := 1 ≤ n ∧ n < p ∧ n ^ q.toNat % p = 1
def spRoot : Sp := fun vs H Q _ => ∃ p q n : Int, vs = [.int p, .int q, .int n] ∧ 0 < q ∧ 0 < p ∧ p < 2147483648 ∧ ∀ b : Bool, (b = true ↔ El p q n) → Q (.bl b) H
theorem ok_is_root {f : Addr} {fd : FuncData} (F : Fun K "_is_root" "_is_root" s__is_root f fd) (C_power : C8.Cal P w K mg base 1 "power" spPower []) : FnOk P w K mg base CX0 2 f fd ["p", "q", "number"] spRoot := by
  refine F.ok sc__is_root (fun vs H Q E h => ?_) (fun cdv A outer s H vs Q E hr h => ?_)
  · obtain ⟨p, q, n, rfl, _⟩ := h
    rfl
  · obtain ⟨p, q, n, rfl, q0, p0, p1, z⟩ := h
    refine ⟨_, (pss_one (ps_ret (pe_and (pe_chain op_le op_lt pe_int (pv 2) (pv 0)) (pe_one (pe_cmpR op_eq (C8.pe_c C_power hr (by omega) rfl (pa_cons (pv 2) (pa_cons (pv 1) (pa_cons (pv 0) pa_nil)))) pe_int (nomark _)))))), ?_⟩
    walk_at "go"
    refine iteD (fun h1 => ?_) (fun h1 => ?_)
    · walk_at "go"
      refine iteD (fun h2 => ?_) (fun h2 => ?_)
      · walk_at "go"
        refine z _ ?_
        rw [decide_eq_true_eq]
        exact ⟨fun e => ⟨h1, h2, V.int.inj e⟩, fun e => congrArg V.int e.2.2⟩
      · walk_at "go"
        exact z _ ⟨fun e => (by cases e), fun e => absurd e.2.1 h2⟩
    · walk_at "go"
      exact z _ ⟨fun e => (by cases e), fun e => absurd e.1 h1⟩
/-- numbers that make a group -/
structure GOk (p q : Int) (bs : List Int) : Prop where
  p3 : 3 ≤ p
  pm : p ≤ 1000000
  pp : Pr p
  qp : Pr q
  dv : (p - 1) % q = 0
  l2 : 2 ≤ bs.length
  lm : bs.length ≤ 12
  el : ∀ b ∈ bs, b ≠ 1 ∧ El p q b
  nd : bs.Nodup
theorem GOk.q0 {p q : Int} {bs : List Int} (g : GOk p q bs) : 0 < q := by
  have := g.qp.1
  omega
theorem GOk.p0 {p q : Int} {bs : List Int} (g : GOk p q bs) : 1 < p := by
  have := g.p3
  omega
theorem GOk.ql {p q : Int} {bs : List Int} (g : GOk p q bs) : q < p := by
  have h := g.dv
  have := g.p3
  have := g.q0
  have h1 := Int.le_of_dvd (show (0 : Int) < p - 1 by omega) (Int.dvd_of_emod_eq_zero h)
  omega
def spCheckPrimes : Sp := fun vs H Q _ => ∃ p q : Int, vs = [.int p, .int q] ∧ 3 ≤ p ∧ p ≤ 1000000 ∧ Pr p ∧ Pr q ∧ (p - 1) % q = 0 ∧ Q .non H
theorem ok_check_primes {f : Addr} {fd : FuncData} (F : Fun K "_check_primes" "_check_primes" s__check_primes f fd) (G : Glb mg) (C_is_prime : C8.Cal P w K mg base 1 "is_prime" spIsPrime []) : FnOk P w K mg base CX0 2 f fd ["p", "q"] spCheckPrimes := by
  refine F.ok sc__check_primes (fun vs H Q E h => ?_) (fun cdv A outer s H vs Q E hr h => ?_)
  · obtain ⟨p, q, rfl, _⟩ := h
    rfl
  · obtain ⟨p, q, rfl, p3, pm, pp, qp, dv, z⟩ := h
    have q2 := qp.1
    have ql := Int.le_of_dvd (show (0 : Int) < p - 1 by omega) (Int.dvd_of_emod_eq_zero dv)
    refine ⟨_, (pss_cons (ps_if (PW.pt (pw_or (pt_not (pt_chain op_le op_le (pe_gint G.SMALLEST_P) (pv 0) (pe_gint G.LARGEST_P))) (pw_or1 (pt_not (pt_val (C8.pe_c C_is_prime hr (by omega) rfl (pa_cons (pv 0) pa_nil))))))) (pss_one ps_never) pss_nil)
      (pss_one (ps_if (PW.pt (pw_or (pt_cmpR op_lt (pv 1) pe_int (nomark _)) (pw_or (pt_cmpR op_ne (pe_op op_mod (pe_op op_sub (pv 0) pe_int) (pv 1)) pe_int (nomark _)) (pw_or1 (pt_not (pt_val (C8.pe_c C_is_prime hr (by omega) rfl (pa_cons (pv 1) pa_nil)))))))) (pss_one ps_never) pss_nil))), ?_⟩
    walk_at "go"
    refine iteD (fun h1 => ?_) (fun h1 => absurd p3 h1)
    walk_at "go"
    rw [decide_eq_true pm]
    walk_at "go"
    intro b hb
    walk_at "go"
    rw [hb.mpr pp]
    walk_at "go"
    rw [decide_eq_false (show ¬ q < 2 by omega)]
    walk_at "go"
    rw [show decide (V.int ((p - 1) % q) = V.int 0) = true from decide_eq_true (congrArg V.int dv)]
    walk_at "go"
    intro b hb
    walk_at "go"
    rw [hb.mpr qp]
    walk_at "go"
    exact z
def spCheckBases (K : PySem.W.Frag) : Sp := fun vs H Q _ => ∃ (p q : Int) (b : Addr) (bs : List Int), vs = [.int p, .int q, .ref b] ∧ SqL K H b (bs.map V.int) ∧ GOk p q bs ∧ ∀ H', Same H H' → Q .non H'
theorem ok_check_bases {f : Addr} {fd : FuncData} (F : Fun K "_check_bases" "_check_bases" s__check_bases f fd) (G : Glb mg) (B : Blt mg) (C__is_root : C8.Cal P w K mg base 2 "_is_root" spRoot []) : FnOk P w K mg base CX0 3 f fd ["p", "q", "bases"] (spCheckBases K) := by
  refine F.ok sc__check_bases (fun vs H Q E h => ?_) (fun cdv A outer s H vs Q E hr h => ?_)
  · obtain ⟨p, q, b, bs, rfl, _⟩ := h
    rfl
  · obtain ⟨p, q, b, bs, rfl, hb, g, z⟩ := h
    have l2 := g.l2
    have lm := g.lm
    have q0 := g.q0
    have p0 := g.p0
    have pm := g.pm
    refine ⟨_, (pss_cons (ps_if (pt_not (pt_chain op_le op_le (pe_gint G.FEWEST_BASES) (pe_callB (klen (K := K) rfl) (by rfl) B.len bt_len (pa_cons (pv 2) pa_nil)) (pe_gint G.MOST_BASES))) (pss_one ps_never) pss_nil)
      (pss_one (ps_for PassesOwn.never rfl (pi_enum (by rfl) B.enumerate (pa_cons (pv 2) pa_nil)) (kgtup (K := K) (n := 2) rfl rfl (pgs_cons (pg_name (i := 3) sc__check_bases.nd rfl (.inl rfl)) (pgs_cons (pg_name (i := 4) sc__check_bases.nd rfl (.inl rfl)) pgs_nil)))
      (pss_one (ps_if (PW.pt (pw_or (pt_cmpR op_eq (pv 4) pe_int (nomark _)) (pw_or (pt_not (pt_val (C8.pe_c C__is_root hr (by omega) rfl (pa_cons (pv 0) (pa_cons (pv 1) (pa_cons (pv 4) pa_nil)))))) (pw_or1 (pt_cmpR (kin (K := K) rfl) (pv 4) (pe_slice (ksll (K := K) rfl) (pv 2) po_none (po_some (pv 3))) rfl))))) (pss_one ps_never) pss_nil))))), ?_⟩
    walk_at "go"
    rw [List.length_map, decide_eq_true (show (2 : Int) ≤ bs.length by omega)]
    walk_at "go"
    rw [decide_eq_true (show (bs.length : Int) ≤ 12 by omega)]
    walk_at "go"
    refine for_enum (xs := bs.map V.int) (fun i σ' H' => At (∃ y3 y4, σ' = [some (.int p), some (.int q), some (.ref b), y3, y4] ∧ Same H H')) (.of ⟨_, _, rfl, Same.refl H⟩) (fun i σ' H' hW => ?_) ?_ ?_
    · obtain ⟨_, _, _, k⟩ := hW.out
      exact k.seq hb
    · intro i x T σ' H' hx hW hT
      obtain ⟨y3, y4, rfl, k⟩ := hW.out
      obtain ⟨n, hn, rfl⟩ : ∃ n, bs[i]? = some n ∧ x = V.int n := by
        rw [List.getElem?_map] at hx
        cases e : bs[i]? with
        | none =>
          rw [e] at hx
          cases hx
        | some n =>
          rw [e] at hx
          exact ⟨n, rfl, (Option.some.inj hx).symm⟩
      have mn := List.mem_of_getElem? hn
      have el := g.el n mn
      have k2 := k.trans (same_new (o := .tup [.int (i : Nat), .int n]) hT)
      have hb2 := k2.seq hb
      walk_at "go"
      rw [decide_eq_false (show ¬ V.int n = V.int 1 from fun e => el.1 (V.int.inj e))]
      walk_at "go"
      intro b' hb'
      walk_at "go"
      rw [hb'.mpr el.2]
      walk_at "go"
      intro c hc
      have k3 := k2.trans (same_new (o := .lst (cutV (bs.map V.int) none (some (i : Int)))) hc)
      rw [cut_take, ← List.map_take] at k3 ⊢
      refine ⟨_, _, rfl, .inl (SqL.of upd_same), rfl, flat_ints _, ?_⟩
      rw [inV_ints, decide_eq_false (show ¬ n ∈ bs.take i from fun m => ?_)]
      · walk_at "go"
        exact .of ⟨some (.int (i : Nat)), some (.int n), rfl, k3⟩
      · have hi := (List.getElem?_eq_some_iff.mp hn)
        obtain ⟨j, hj, e⟩ := List.mem_iff_getElem.mp m
        rw [List.length_take] at hj
        rw [List.getElem_take] at e
        have := (List.getElem_inj g.nd).mp (e.trans hi.2.symm)
        omega
    · intro σ' H' hW
      obtain ⟨y3, y4, rfl, k⟩ := hW.out
      exact z _ k
end


def aspDraw : ASp := fun ds P => ∃ n : Int, ds = [.pool, .int n] ∧ 0 < n ∧ n < 1073741824 ∧ ∀ v : Int, 0 ≤ v → v < n → P (.int v)
theorem draw {n : Int} {P : Dat → Prop} (h0 : 0 < n) (h1 : n < 1073741824) (h : ∀ v : Int, 0 ≤ v → v < n → P (.int v)) : aspDraw [.pool, .int n] P := ⟨n, rfl, h0, h1, h⟩
theorem sp_draw {K : PySem.W.Frag} {ca : Nat → Addr} : ∀ vs H Q E, toSp K ca aspDraw vs H Q E → spDrawP vs H Q E := fun vs H Q E ⟨po, F, ds, P, ok, r, ⟨n, e, n0, n1, hp⟩, k⟩ => by
  subst e
  cases r with
  | cons r1 r2 =>
    cases r2 with
    | cons r2 r3 =>
      cases r3
      cases r2
      cases r1 with
      | @pool p c e =>
        obtain ⟨h1, h2, h3⟩ := ok.po p c e
        refine ⟨p, c, n, rfl, h1, n0, n1, fun v H' v0 v1 hP kp => k (.int v) F H' _ (hp v v0 v1) ⟨fun _ f => f, fun _ f => .inl f, fun a o ha np => kp a o (np p c e) ha, ⟨fun a f => ?_, fun p' c' e' => ?_⟩⟩ (.int v)⟩
        · cases ea : H a with
          | none => exact absurd ea (ok.tr a f)
          | some o =>
            rw [kp a o (ok.np f p c e) ea]
            exact fun z => by cases z
        · rw [e] at e'
          cases e'
          exact ⟨hP, h2, h3⟩
def aspPower : ASp := fun ds P => ∃ a e m : Int, ds = [.int a, .int e, .int m] ∧ 0 ≤ e ∧ 0 < m ∧ m < 2147483648 ∧ P (.int (a ^ e.toNat % m))
theorem sp_power {K : PySem.W.Frag} {ca : Nat → Addr} : ∀ vs H Q E, toSp K ca aspPower vs H Q E → spPower vs H Q E := fun vs H Q E ⟨po, F, ds, P, ok, r, ⟨a, e, m, ed, h1, h2, h3, hp⟩, k⟩ => by
  subst ed
  have ev : vs = [V.int a, .int e, .int m] := RvAll.ints (ns := [a, e, m]) r
  subst ev
  exact ⟨a, e, m, rfl, h1, h2, h3, k _ F H _ hp (.refl ok) (.int _)⟩


/-! ### an __init__ over data -/
theorem mt_any {W : Wd} {H0 H1 : Hp} {F : Addr → Prop} {H : Hp} {σ : L2.St} {env : List Sl} (no : ∀ (i : Nat) (xs : List Dat), env[i]? ≠ some (.o xs)) (m : Mt W H0 F H σ env) : Mt W H1 F H σ env :=
  ⟨m.ln, fun i s e => by
    obtain ⟨ov, e1, r⟩ := m.at_ i s e
    refine ⟨ov, e1, ?_⟩
    cases s with
    | u => trivial
    | d x => exact r
    | o xs => exact absurd e (no i xs), fun i j xs ys a e1 => absurd e1 (no i xs)⟩
theorem mt_startI {W : Wd} {H1 : Hp} {F : Addr → Prop} {H : Hp} {N : List Str} {x : Addr} {vs : List V} {ds : List Dat} (r : RvAll W F H vs ds) (hl : ds.length + 1 ≤ N.length) :
    Mt W H1 F H (L2.start N (.ref x :: vs)) (.u :: (ds.map Sl.d ++ List.replicate (N.length - (ds.length + 1)) .u)) := by
  have m : Mt W H F H (L2.start (N.drop 1) vs) (ds.map Sl.d ++ List.replicate ((N.drop 1).length - ds.length) .u) := mt_start r (by rw [List.length_drop]; omega)
  have e1 : (N.drop 1).length - ds.length = N.length - (ds.length + 1) := by rw [List.length_drop]; omega
  have lv := r.length
  have e2 : L2.start N (.ref x :: vs) = some (.ref x) :: L2.start (N.drop 1) vs := by
    unfold L2.start
    rw [List.length_drop, List.length_cons]
    show some (V.ref x) :: (vs.map some ++ List.replicate (N.length - (vs.length + 1)) none) = _
    rw [show N.length - (vs.length + 1) = N.length - 1 - vs.length by omega]
  rw [e1] at m
  rw [e2]
  have no : ∀ (i : Nat) (xs : List Dat), (ds.map Sl.d ++ List.replicate (N.length - (ds.length + 1)) Sl.u)[i]? ≠ some (.o xs) := fun i xs e => by
    rcases List.mem_append.mp (List.mem_of_getElem? e) with h | h
    · obtain ⟨_, _, z⟩ := List.mem_map.mp h
      cases z
    · cases (List.mem_replicate.mp h).2
  refine ⟨congrArg (· + 1) m.ln, fun i s e => ?_, fun i j xs ys a e => ?_⟩
  · cases i with
    | zero =>
      cases e
      exact ⟨_, rfl, trivial⟩
    | succ i => exact (mt_any no m).at_ i s e
  · cases i with
    | zero => cases e
    | succ i => exact absurd e (no i xs)
theorem fn_init {K : PySem.W.Frag} {ca : Nat → Addr} {c : Nat} {asp : ASpI} {N : List Str} {vs : List V} {H : Hp} {Q : VK} {E : XK} {ts : TS} {ai : List Sl → (List Dat → Prop) → Prop} (h : toSpI K ca c asp vs H Q E) (hs : ∀ po, AIni ⟨K, ca, po⟩ c 0 ts ai)
    (hl : ∀ ds P, asp ds P → ds.length + 1 ≤ N.length) (hb : ∀ ds P, asp ds P → ai (.u :: (ds.map Sl.d ++ List.replicate (N.length - (ds.length + 1)) .u)) P) : ts { nx := fun _ H' => Q .non H', rt := Q } (L2.start N vs) H := by
  obtain ⟨po, F, H1, x, dx, ws, ds, P, rfl, rfl, hx, hdx, hne, ok, r, a, k⟩ := h
  have x1 : Ext ⟨K, ca, po⟩ F H1 F (upd H1 dx (.own x)) := Ext.lay ok hdx
  have hx1 : upd H1 dx (.own x) x = none := by rw [upd_ne (fun z => hne z.symm)]; exact hx
  have x2 : Ext ⟨K, ca, po⟩ F (upd H1 dx (.own x)) F (upd (upd H1 dx (.own x)) x (.ins (ca c) dx [])) := Ext.lay x1.ok hx1
  have x3 := x1.trans ok x2
  exact (hs po).run H1 x dx _ _ F F _ [] [] { nx := fun _ H' => Q .non H', rt := Q } P hx ok x3 (fun f => ok.tr x f hx) upd_same (Nat.le_refl _) (by rw [List.take_zero]; exact .nil) (fun m _ => rfl)
    (mt_startI (r.sub (x3.sub ok)) (hl ds P a)) rfl (hb ds P a) fun es F' H' σ' p e rv => k es F' H' p e rv
theorem sp_lenI {K : PySem.W.Frag} {ca : Nat → Addr} {c : Nat} {asp : ASpI} {n : Nat} (hn : ∀ ds P, asp ds P → ds.length = n) {vs : List V} {H : Hp} {Q : VK} {E : XK} (h : toSpI K ca c asp vs H Q E) : vs.length = n + 1 := by
  obtain ⟨po, F, H1, x, dx, ws, ds, P, rfl, rfl, hx, hdx, hne, ok, r, a, k⟩ := h
  rw [List.length_cons, r.length, hn ds P a]
/-- a call ahead of the attributes -/
def iDrop (ea : AEx) (ai : List Sl → (List Dat → Prop) → Prop) : List Sl → (List Dat → Prop) → Prop := fun env P => ea env fun _ => ai env P
theorem i_drop {W : Wd} {c k : Nat} {te : TE} {ea : AEx} {ts : TS} {ai : List Sl → (List Dat → Prop) → Prop} (he : ∀ H0, AExp W H0 te ea) (h2 : AIni W c k ts ai) : AIni W c k (tSeq (tDrop te) ts) (iDrop ea ai) :=
  ⟨fun H1 x dx σ env F1 F H fs ds De P hx ok1 b nf hX ln r no m s0 q kk => by
  refine (he H1).run σ env F H _ _ b.ok m q fun d F' H' v p x1 rv => ?_
  have hX' : H' x = some (.ins (W.ca c) dx fs) := x1.kp x _ hX fun p c e => (ok1.pne hx p c e).1
  have nf' : ¬ F' x := fun f => by
    rcases x1.dn x f with z | z
    · exact nf z
    · rw [z] at hX
      cases hX
  exact h2.run H1 x dx σ env F1 F' H' fs ds De P hx ok1 (b.trans ok1 x1) nf' hX' ln (r.sub (x1.sub b.ok)) no (m.ext b.ok x1) s0 p kk⟩

/-! ### == by an own __eq__, as a letter -/
structure EqM (P : Program) (w : World) (K : PySem.W.Frag) (mg : Str → Option Value) (base : Heap) (k : Nat) (C : Addr) (sp : Sp) : Prop where
  ex : ∃ (f : Addr) (fd : FuncData) (ps : List Str), FnOk P w K mg base CX0 k f fd ps sp ∧ PySem.W.findIn K (.ref C) "__eq__" = some (some (.ref f)) ∧ PySem.W.isFn K (.ref f) = true ∧ Binds K fd ps []
theorem op_eqM {X : Cx} {n j : Nat} {C : Addr} {sp : Sp} (c : EqM X.prog X.w X.K X.mg X.base n C sp) (hr : Room j X.A) (hk : n ≤ j) : OpR X (compareOp .Eq) (rEqO C sp E0) := by
  obtain ⟨f, fd, ps, F, hs, hf, hb⟩ := c.ex
  exact op_eqO F hs hf hb pass0 (hr.mono hk)
/-- a list or a tuple -/
def sqD (k : Bool) (xs : List Dat) : Dat := match k with
  | true => .tup xs
  | false => .lst xs
theorem kQ_sq {k : Bool} {xs : List Dat} {P : List Dat → Prop} (h : P xs) : kQ k (sqD k xs) P := by
  cases k with
  | true => exact h
  | false => exact h
theorem sQ_sq {k : Bool} {xs : List Dat} {P : List Dat → Prop} (h : P xs) : sQ (sqD k xs) P := by
  cases k with
  | true => exact h
  | false => exact h
theorem sp_exI {κ : Type} {K : PySem.W.Frag} {ca : Nat → Addr} {c : Nat} {a : κ → ASpI} {vs : List V} {H : Hp} {Q : VK} {E : XK} (h : toSpI K ca c (fun ds P => ∃ k, a k ds P) vs H Q E) : ∃ k, toSpI K ca c (a k) vs H Q E := by
  obtain ⟨po, F, H1, x, dx, ws, ds, P, e1, e2, hx, hdx, hne, ok, r, ⟨k, a⟩, z⟩ := h
  exact ⟨k, po, F, H1, x, dx, ws, ds, P, e1, e2, hx, hdx, hne, ok, r, a, z⟩
theorem kbm {X : Cx} {K : PySem.W.Frag} (hK : X.K = K) {o e : Expr} {es : List Expr} {to : TE} {t : TA} {name : Str} {apos cpos : Pos} {T id : String} {r : V → List V → Hp → VK → Prop}
    (pa : PlainAttrs T) (slot : Slot T name id) (hty : typeOf (.builtin id) = pure (.type "method_descriptor")) (hm : MtR X id r) (ho : PE X o to) (ha : PA X (e :: es) t)
    (hbase : attributeBase o name X.env (eval o X.env) = eval o X.env := by rfl)
    (hfew : ((backTo cpos (starEach (e :: es) X.env)).all (fun x => !x.1) && (backToKw cpos (keywordEach [] X.env)).all (fun x => x.1.isSome)
      && decide ((e :: es).length + ([] : List Keyword).length + (if ([] : List Keyword).isEmpty then 0 else 1) < 30)) = true := by rfl)
    (hline : (apos.endLine == cpos.line) = true := by rfl) (hs : starEach (e :: es) X.env = (false, eval e X.env) :: starEach es X.env := by rfl) (hplain : (backTo cpos (starEach es X.env)).any (·.1) = false := by rfl) :
    PE X (.Call (.Attribute o name apos) (e :: es) [] cpos) (tBM K T r to t) := by
  subst hK
  exact pe_bm pa slot hty hm ho ha hbase hfew hline hs hplain

def prT (x : Int × Int) : Dat := .tup [.int x.1, .int x.2]
/-! ### groups, over data -/
structure GT (K : PySem.W.Frag) (C : Addr) : Prop where
  cl : Cls K C
  n_p : NoAttr K C "p"
  n_q : NoAttr K C "q"
  n_bases : NoAttr K C "bases"
def aspCheckPrimes : ASp := fun ds P => ∃ p q : Int, ds = [.int p, .int q] ∧ 3 ≤ p ∧ p ≤ 1000000 ∧ Pr p ∧ Pr q ∧ (p - 1) % q = 0 ∧ P .non
theorem sp_check_primes {K : PySem.W.Frag} {ca : Nat → Addr} : ∀ vs H Q E, toSp K ca aspCheckPrimes vs H Q E → spCheckPrimes vs H Q E := fun vs H Q E ⟨po, F, ds, P, ok, r, ⟨p, q, ed, h1, h2, h3, h4, h5, hp⟩, k⟩ => by
  subst ed
  have ev : vs = [V.int p, .int q] := RvAll.ints (ns := [p, q]) r
  subst ev
  exact ⟨p, q, rfl, h1, h2, h3, h4, h5, k _ F H _ hp (.refl ok) .non⟩
def aspCheckBases : ASp := fun ds P => ∃ (p q : Int) (bs : List Int), ds = [.int p, .int q, .lst (bs.map .int)] ∧ GOk p q bs ∧ P .non
theorem sp_check_bases {K : PySem.W.Frag} {ca : Nat → Addr} : ∀ vs H Q E, toSp K ca aspCheckBases vs H Q E → spCheckBases K vs H Q E := fun vs H Q E ⟨po, F, ds, P, ok, r, ⟨p, q, bs, ed, g, hp⟩, k⟩ => by
  subst ed
  match vs, r with
  | [_, _, _], .cons r1 (.cons r2 (.cons r3 .nil)) =>
    cases r1
    cases r2
    cases r3 with
    | lst f h r =>
      have e := r.ints
      subst e
      exact ⟨p, q, _, bs, rfl, SqL.of h, g, fun H' s => k _ F H' _ hp (ext_same ok s) .non⟩
section
variable {P : Program} {w : World} {K : PySem.W.Frag} {mg : Str → Option Value} {base : Heap} {ca : Nat → Addr}
def aspGroupI : ASpI := fun ds P => ∃ (p q : Int) (bs : List Int), ds = [.int p, .int q, .lst (bs.map .int)] ∧ GOk p q bs ∧ P [.int p, .int q, .tup (bs.map .int)]
theorem ok_group_init {f : Addr} {fd : FuncData} (F : Fun K "__init__" "Group.__init__" s_Group___init__ f fd) (T0 : GT K (ca 0)) (B : Blt mg) (C__check_primes : C8.Cal P w K mg base 2 "_check_primes" (toSp K ca aspCheckPrimes) []) (C__check_bases : C8.Cal P w K mg base 3 "_check_bases" (toSp K ca aspCheckBases) []) :
    FnOk P w K mg base CX0 4 f fd ["self", "p", "q", "bases"] (toSpI K ca 0 aspGroupI) := by
  refine F.ok sc_Group___init__ (fun vs H Q E h => sp_lenI (n := 3) (fun ds P a => by obtain ⟨_, _, _, rfl, _⟩ := a; rfl) h) (fun cdv A outer s H vs Q E hr h => ⟨_, (pss_cons (ps_expr (C8.pe_c C__check_primes hr (by omega) rfl (pa_cons (pv 1) (pa_cons (pv 2) pa_nil))))
      (pss_cons (ps_expr (C8.pe_c C__check_bases hr (by omega) rfl (pa_cons (pv 1) (pa_cons (pv 2) (pa_cons (pv 3) pa_nil)))))
      (pss_cons (ps_fld (pv 0) (pv 1) rfl)
      (pss_cons (ps_fld (pv 0) (pv 2) rfl)
      (pss_cons (ps_fld (pv 0) (pe_callTy (ktupF (K := K) rfl) (by rfl) B.tuple bt_tuple (pa_cons (pv 3) pa_nil)) rfl) pss_nil))))),
    fn_init h (fun po => (i_drop (fun _ => (a_call (a_cons a_var (a_cons a_var a_nil)))) (i_drop (fun _ => (a_call (a_cons a_var (a_cons a_var (a_cons a_var a_nil))))) (i_cons T0.cl T0.n_p (k := 0) rfl (by decide) (by decide) (fun _ => a_var) (i_cons T0.cl T0.n_q (k := 1) rfl (by decide) (by decide) (fun _ => a_var) (i_cons T0.cl T0.n_bases (k := 2) rfl (by decide) (by decide) (fun _ => (a_b1 u_tupOf (a_pk a_var))) i_nil)))))) (fun ds P a => by obtain ⟨_, _, _, rfl, _⟩ := a; exact Nat.le_of_ble_eq_true rfl) ?_⟩)
  rintro ds P ⟨p, q, bs, rfl, g, hp⟩
  exact ⟨p, q, rfl, g.p3, g.pm, g.pp, g.qp, g.dv, p, q, bs, rfl, g, hp⟩
def aspRaised : ASp := fun ds P => ∃ (e k p q : Int) (bs : List Int), ds = [grpD p q bs, .int e, .int k] ∧ 0 < q ∧ 0 < p ∧ p < 2147483648 ∧ P (.int (rz p q e k))
theorem ok_raised {f : Addr} {fd : FuncData} (F : Fun K "raised" "Group.raised" s_Group_raised f fd) (T0 : GT K (ca 0)) (C_power : C8.Cal P w K mg base 1 "power" (toSp K ca aspPower) []) : FnOk P w K mg base CX0 2 f fd ["self", "element", "exponent"] (toSp K ca aspRaised) := by
  refine F.ok sc_Group_raised (fun vs H Q E h => sp_len (n := 3) (fun ds P a => by obtain ⟨_, _, _, _, _, rfl, _⟩ := a; rfl) h) (fun cdv A outer s H vs Q E hr h => ⟨_, (pss_one (ps_ret (C8.pe_c C_power hr (by omega) rfl (pa_cons (pv 1) (pa_cons (pe_op op_mod (pv 2) (kfld (K := K) rfl (pv 0))) (pa_cons (kfld (K := K) rfl (pv 0)) pa_nil)))))),
    fn_run h (fun po => (s_ret fun _ => (a_call (a_cons a_var (a_cons (a_op pst_rv rok_I a_var (a_fld T0.cl T0.n_q (c := 0) (i := 1) rfl a_var)) (a_cons (a_fld T0.cl T0.n_p (c := 0) (i := 0) rfl a_var) a_nil)))))) (fun ds P a => by obtain ⟨_, _, _, _, _, rfl, _⟩ := a; exact Nat.le_of_ble_eq_true rfl) ?_⟩)
  rintro ds P ⟨e, k, p, q, bs, rfl, q0, p0, p1, hp⟩
  have bd := emod_bd (a := k) q0
  exact ⟨rfl, ⟨propOnly (by walk_at "sd"), ⟨rfl, ⟨_, _, _, rfl, by omega, p0, p1, hp⟩⟩⟩⟩
def aspProduct : ASp := fun ds P => ∃ (p q : Int) (bs : List Int) (prs : List (Int × Int)), ds = [grpD p q bs, .lst (prs.map prT)] ∧ 0 < q ∧ 1 < p ∧ p < 2147483648 ∧ P (.int (prZ p q prs))
theorem ok_product {f : Addr} {fd : FuncData} (F : Fun K "product" "Group.product" s_Group_product f fd) (T0 : GT K (ca 0)) (M_raised : C8.Met P w K mg base 2 (ca 0) "raised" (toSp K ca aspRaised) []) : FnOk P w K mg base CX0 3 f fd ["self", "pairs"] (toSp K ca aspProduct) := by
  refine F.ok sc_Group_product (fun vs H Q E h => sp_len (n := 2) (fun ds P a => by obtain ⟨_, _, _, _, rfl, _⟩ := a; rfl) h) (fun cdv A outer s H vs Q E hr h => ⟨_, (pss_cons (ps_set (i := 2) sc_Group_product.nd rfl (.inl rfl) pe_int)
      (pss_cons (ps_for PassesOwn.never rfl (kpil (K := K) rfl (pv 1)) (kgtup (K := K) (n := 2) rfl rfl (pgs_cons (pg_name (i := 3) sc_Group_product.nd rfl (.inl rfl)) (pgs_cons (pg_name (i := 4) sc_Group_product.nd rfl (.inl rfl)) pgs_nil)))
      (pss_one (ps_set (i := 2) sc_Group_product.nd rfl (.inl rfl) (pe_op op_mod (pe_op op_mul (pv 2) (C8.pe_mt M_raised hr (by omega) (pv 0) (pa_cons (pv 3) (pa_cons (pv 4) pa_nil)))) (kfld (K := K) rfl (pv 0))))))
      (pss_one (ps_ret (pv 2))))),
    fn_run h (fun po => (s_seq (s_set fun _ => a_int)
      (s_seq (s_for (vs := [3, 4]) (fun _ => (i_list a_var)) (fun _ => (g_tup (g_cons (g_name (by decide)) (g_cons (g_name (by decide)) g_nil tot_name) tot_name)))
      (s_set fun _ => (a_op pst_rv rok_I (a_op pst_rv rok_I a_var (a_meth (by decide) a_var (a_cons a_var (a_cons a_var a_nil)))) (a_fld T0.cl T0.n_p (c := 0) (i := 0) rfl a_var))))
      (s_ret fun _ => a_var)))) (fun ds P a => by obtain ⟨_, _, _, _, rfl, _⟩ := a; exact Nat.le_of_ble_eq_true rfl) ?_⟩)
  rintro ds P ⟨p, q, bs, prs, rfl, q0, p0, p1, hp⟩
  refine forA_map (fun i env => ∃ y3 y4, env = [.d (grpD p q bs), .d (.lst (prs.map prT)), .d (.int (prF p q 1 (prs.take i))), y3, y4]) ⟨_, _, rfl⟩ ?_ ?_
  · rintro i ⟨e, k⟩ env hi ⟨y3, y4, rfl⟩ N hN
    have bd := prF_bd (q := q) p0 (prs.take i) 1 (by omega) p0
    have be := emod_bd (a := e ^ (k % q).toNat) (m := p) (by omega)
    refine ⟨rfl, e, k, p, q, bs, rfl, q0, by omega, p1, ?_⟩
    refine ⟨propOnly (by walk_at "sd"), ⟨rfl, ⟨propOnly (by walk_at "sd"), hN _ ⟨.d (.int e), .d (.int k), ?_⟩⟩⟩⟩
    rw [List.take_add_one, hi]
    show _ = [_, _, Sl.d (.int (prF p q 1 (prs.take i ++ [(e, k)]))), _, _]
    rw [prF_snoc]
    rfl
  · rintro env ⟨y3, y4, rfl⟩
    show P (.int (prF p q 1 (prs.take prs.length)))
    rw [List.take_length]
    exact hp
end

/-! ### statements, over data -/
abbrev s_Statement___init__ : Stmt := inClass (top 5) 0
theorem sc_Statement___init__ : FnScope ["self", "unknowns", "equations", "equation"] ["self", "unknowns", "equations"] (defScope s_Statement___init__) := ⟨rfl, rfl, rfl, by decide +kernel, rfl, by decide +kernel, by decide +kernel⟩
abbrev s__kept : Stmt := top 6
theorem sc__kept : FnScope ["equation", "element", "factors", "base", "unknown"] ["equation"] (defScope s__kept) := ⟨rfl, rfl, rfl, by decide +kernel, rfl, by decide +kernel, by decide +kernel⟩
abbrev s__products : Stmt := top 7
theorem sc__products : FnScope ["group", "statement", "exponents", "table", "products", "_", "factors", "base", "unknown"] ["group", "statement", "exponents"] (defScope s__products) := ⟨rfl, rfl, rfl, by decide +kernel, rfl, by decide +kernel, by decide +kernel⟩
abbrev s_simulated : Stmt := top 9
theorem sc_simulated : FnScope ["group", "statement", "challenge", "replies", "products", "moves", "element", "_", "replied"] ["group", "statement", "challenge", "replies"] (defScope s_simulated) := ⟨rfl, rfl, rfl, by decide +kernel, rfl, by decide +kernel, by decide +kernel⟩
structure ST (K : PySem.W.Frag) (C : Addr) : Prop where
  cl : Cls K C
  n_unknowns : NoAttr K C "unknowns"
  n_equations : NoAttr K C "equations"
/-- a factor: a base, the name of an unknown; an equation: an element, factors -/
abbrev Fac := Int × Str
abbrev Eqn := Int × List Fac
def fcD (x : Fac) : Dat := .tup [.int x.1, .str x.2]
def eqK (k : Bool) (x : Eqn) : Dat := .tup [.int x.1, sqD k (x.2.map fcD)]
def eqD (x : Eqn) : Dat := .tup [.int x.1, .tup (x.2.map fcD)]
def stO (us : List Str) (eqs : List Eqn) : Dat := .obj 1 [.tup (us.map .str), .tup (eqs.map eqD)]
def stL (us : List Str) (eqs : List Eqn) : Dat := .tup [.tup (us.map .str), .tup (eqs.map eqD)]
/-- the number of an unknown -/
def look : List Str → List Int → Str → Int
  | u :: us, x :: xs, v => if u = v then x else look us xs v
  | _, _, _ => 0
/-- for each equation the product of its bases to the numbers of their unknowns -/
def side (p q : Int) (us : List Str) (xs : List Int) (e : Eqn) : Int := prZ p q (e.2.map fun f => (f.1, look us xs f.2))
def sides (p q : Int) (us : List Str) (eqs : List Eqn) (xs : List Int) : List Int := eqs.map (side p q us xs)
/-- names that are different, factors with them -/
structure StOk (us : List Str) (eqs : List Eqn) : Prop where
  nd : us.Nodup
  lu : us.length ≤ 100
  le : eqs.length ≤ 1000
  lf : ∀ e ∈ eqs, e.2.length ≤ 1000
  fu : ∀ e ∈ eqs, ∀ f ∈ e.2, f.2 ∈ us
  so : ∀ u ∈ us, PyData.strOk u = true
theorem dget_look : ∀ {us : List Str} {xs : List Int} {u : Str}, u ∈ us → us.length ≤ xs.length → dgetD ((us.map (Sum.inr : Str → Key)).zip (xs.map Dat.int)) (.inr u) = some (.int (look us xs u))
  | [], _, _, h, _ => by cases h
  | _ :: _, [], _, _, h => by cases h
  | v :: us, x :: xs, u, h, hl => by
    by_cases e : v = u
    · subst e
      simp [dgetD, List.find?_cons, look]
    · have h' := (List.mem_cons.mp h).resolve_left (fun z => e z.symm)
      have ih := dget_look h' (xs := xs) (by simpa using hl)
      have e1 : dgetD (((v :: us).map (Sum.inr : Str → Key)).zip ((x :: xs).map Dat.int)) (.inr u) = dgetD ((us.map (Sum.inr : Str → Key)).zip (xs.map Dat.int)) (.inr u) := by
        have ne : ¬ ((Sum.inr v : Key) = Sum.inr u) := fun z => e (Sum.inr.inj z)
        simp [dgetD, List.find?_cons, ne]
      rw [e1, ih]
      simp [look, e]
section
variable {P : Program} {w : World} {K : PySem.W.Frag} {mg : Str → Option Value} {base : Heap} {ca : Nat → Addr}
def aspKeptK (k : Bool) : ASp := fun ds P => ∃ x : Eqn, ds = [eqK k x] ∧ x.2.length ≤ 1000 ∧ P (eqD x)
def aspKept : ASp := fun ds P => ∃ k, aspKeptK k ds P
theorem ok_kept {f : Addr} {fd : FuncData} (F : Fun K "_kept" "_kept" s__kept f fd) (B : Blt mg) : FnOk P w K mg base CX0 1 f fd ["equation"] (toSp K ca aspKept) := by
  refine F.ok sc__kept (fun vs H Q E h => by obtain ⟨k, h⟩ := sp_ex h; exact sp_len (n := 1) (fun ds P a => by obtain ⟨_, rfl, _⟩ := a; rfl) h) (fun cdv A outer s H vs Q E hr h => ?_)
  obtain ⟨k, h⟩ := sp_ex h
  refine ⟨_, (pss_cons (ps_asg (pv 0) (kgtup (K := K) (n := 2) rfl rfl (pgs_cons (pg_name (i := 1) sc__kept.nd rfl (.inl rfl)) (pgs_cons (pg_name (i := 2) sc__kept.nd rfl (.inl rfl)) pgs_nil))))
      (pss_one (ps_ret (pe_tupF (pa_cons (pv 1) (pa_cons (pe_callTy (ktupF (K := K) rfl) (by rfl) B.tuple bt_tuple (pa_cons (pe_lc (own := [("base", 3), ("unknown", 4)]) (tt := tYes) rfl sc__kept.nd (pi_K k (K := K) rfl (pv 2)) (blkOk_by (N := ["equation", "element", "factors", "base", "unknown"]) (sc := defScope s__kept) (by decide +kernel))
        (fun _ _ _ _ _ => (kgtup (K := K) (n := 2) rfl rfl (pgs_cons (pg_name (i := 3) sc__kept.nd rfl (.inl rfl)) (pgs_cons (pg_name (i := 4) sc__kept.nd rfl (.inl rfl)) pgs_nil)))) (fun _ _ _ _ _ => pts_nil)
        (fun _ _ _ _ _ => (pe_tupF (pa_cons (pv 3) (pa_cons (pv 4) pa_nil))))) pa_nil)) pa_nil)))))),
    fn_run h (fun po => (s_seq (s_asg (vs := [1, 2]) (fun _ => a_var) (fun _ => (g_tup (g_cons (g_name (by decide)) (g_cons (g_name (by decide)) g_nil tot_name) tot_name))))
      (s_ret fun _ => (a_tup (a_cons a_var (a_cons (a_b1 u_tupOf (a_pk (a_fz (a_lc (vs := [3, 4]) (i_K a_var) (g_tup (g_cons (g_name (by decide)) (g_cons (g_name (by decide)) g_nil tot_name) tot_name)) a_yes (a_tup (a_cons a_var (a_cons a_var a_nil))))))) a_nil)))))) (fun ds P a => by obtain ⟨_, rfl, _⟩ := a; exact Nat.le_of_ble_eq_true rfl) ?_⟩
  rintro ds P ⟨⟨e, fs⟩, rfl, hl, hp⟩
  refine kQ_sq ⟨by rw [List.length_map]; omega, ?_⟩
  refine lcA_mapL (g := fcD) (fun x hx Q hQ => hQ) ?_
  exact hp
def aspStI3 (k1 k2 k3 : Bool) : ASpI := fun ds P => ∃ (us : List Str) (eqs : List Eqn), ds = [sqD k1 (us.map .str), sqD k2 (eqs.map (eqK k3))] ∧ eqs.length ≤ 1000 ∧ (∀ e ∈ eqs, e.2.length ≤ 1000) ∧ P [.tup (us.map .str), .tup (eqs.map eqD)]
def aspStI : ASpI := fun ds P => ∃ k1, ∃ k2, ∃ k3, aspStI3 k1 k2 k3 ds P
theorem ok_st_init {f : Addr} {fd : FuncData} (F : Fun K "__init__" "Statement.__init__" s_Statement___init__ f fd) (T1 : ST K (ca 1)) (B : Blt mg) (C__kept : C8.Cal P w K mg base 1 "_kept" (toSp K ca aspKept) []) : FnOk P w K mg base CX0 2 f fd ["self", "unknowns", "equations"] (toSpI K ca 1 aspStI) := by
  refine F.ok sc_Statement___init__ (fun vs H Q E h => by obtain ⟨k1, h⟩ := sp_exI h; obtain ⟨k2, h⟩ := sp_exI h; obtain ⟨k3, h⟩ := sp_exI h; exact sp_lenI (n := 2) (fun ds P a => by obtain ⟨_, _, rfl, _⟩ := a; rfl) h) (fun cdv A outer s H vs Q E hr h => ?_)
  obtain ⟨k1, h⟩ := sp_exI h
  obtain ⟨k2, h⟩ := sp_exI h
  obtain ⟨k3, h⟩ := sp_exI h
  refine ⟨_, (pss_cons (ps_fld (pv 0) (pe_callTy (ktupF (K := K) rfl) (by rfl) B.tuple bt_tuple (pa_cons (pv 1) pa_nil)) rfl)
      (pss_cons (ps_fld (pv 0) (pe_callTy (ktupF (K := K) rfl) (by rfl) B.tuple bt_tuple (pa_cons (pe_lc (own := [("equation", 3)]) (g := gName 3) (tt := tYes) rfl sc_Statement___init__.nd (pi_K k2 (K := K) rfl (pv 2)) (blkOk_by (N := ["self", "unknowns", "equations", "equation"]) (sc := defScope s_Statement___init__) (by decide +kernel))
        (fun _ _ _ _ _ => (pg_name (i := 3) sc_Statement___init__.nd rfl (.inl rfl))) (fun _ _ _ _ _ => pts_nil)
        (fun _ _ _ _ _ => (C8.pe_c C__kept hr (by omega) rfl (pa_cons (pv 3) pa_nil)))) pa_nil)) rfl) pss_nil)),
    fn_init h (fun po => (i_cons T1.cl T1.n_unknowns (k := 0) rfl (by decide) (by decide) (fun _ => (a_b1 u_tupOf (a_pk a_var))) (i_cons T1.cl T1.n_equations (k := 1) rfl (by decide) (by decide) (fun _ => (a_b1 u_tupOf (a_pk (a_fz (a_lc (vs := [3]) (i_K a_var) (g_name (by decide)) a_yes (a_call (a_cons a_var a_nil))))))) i_nil))) (fun ds P a => by obtain ⟨_, _, rfl, _⟩ := a; exact Nat.le_of_ble_eq_true rfl) ?_⟩
  rintro ds P ⟨us, eqs, rfl, hl, hf, hp⟩
  refine sQ_sq ?_
  refine kQ_sq ⟨by rw [List.length_map]; omega, ?_⟩
  refine lcA_mapL (g := eqD) (fun x hx Q hQ => ?_) ?_
  · exact ⟨k3, x, rfl, hf x hx, hQ⟩
  · exact hp
end

theorem zipD_map {α β : Type} (f : α → Dat) (g : β → Dat) : ∀ (xs : List α) (ys : List β), zipD (xs.map f) (ys.map g) = (xs.zip ys).map fun x => .tup [f x.1, g x.2]
  | [], _ => rfl
  | _ :: _, [] => rfl
  | x :: xs, y :: ys => congrArg (_ :: ·) (zipD_map f g xs ys)
theorem zipWith_zip {α β γ : Type} (f : α → β → γ) : ∀ (xs : List α) (ys : List β), List.zipWith f xs ys = (xs.zip ys).map fun x => f x.1 x.2
  | [], _ => rfl
  | _ :: _, [] => rfl
  | x :: xs, y :: ys => congrArg (_ :: ·) (zipWith_zip f xs ys)
section
variable {P : Program} {w : World} {K : PySem.W.Frag} {mg : Str → Option Value} {base : Heap} {ca : Nat → Addr}
theorem side_bd {p q : Int} (h : 1 < p) (us : List Str) (xs : List Int) (e : Eqn) : 0 ≤ side p q us xs e ∧ side p q us xs e < p := prF_bd h _ _ (by omega) h
theorem sides_snoc (p q : Int) (us : List Str) (eqs : List Eqn) (e : Eqn) (xs : List Int) : sides p q us (eqs ++ [e]) xs = sides p q us eqs xs ++ [side p q us xs e] := List.map_append
theorem take_snoc {α : Type} {xs : List α} {i : Nat} {x : α} (h : xs[i]? = some x) : xs.take (i + 1) = xs.take i ++ [x] := by
  rw [List.take_add_one, h]
  rfl
def aspProductsK (k : Bool) : ASp := fun ds P => ∃ (p q : Int) (bs : List Int) (us : List Str) (eqs : List Eqn) (xs : List Int), ds = [grpD p q bs, stO us eqs, sqD k (xs.map .int)] ∧ 0 < q ∧ 1 < p ∧ p < 2147483648 ∧ StOk us eqs ∧ us.length ≤ xs.length ∧ P (.lst ((sides p q us eqs xs).map .int))
def aspProducts : ASp := fun ds P => ∃ k, aspProductsK k ds P
theorem ok_products {f : Addr} {fd : FuncData} (F : Fun K "_products" "_products" s__products f fd) (T1 : ST K (ca 1)) (B : Blt mg) (M_product : C8.Met P w K mg base 3 (ca 0) "product" (toSp K ca aspProduct) []) : FnOk P w K mg base CX0 4 f fd ["group", "statement", "exponents"] (toSp K ca aspProducts) := by
  refine F.ok sc__products (fun vs H Q E h => by obtain ⟨k, h⟩ := sp_ex h; exact sp_len (n := 3) (fun ds P a => by obtain ⟨_, _, _, _, _, _, rfl, _⟩ := a; rfl) h) (fun cdv A outer s H vs Q E hr h => ?_)
  obtain ⟨k, h⟩ := sp_ex h
  refine ⟨_, (pss_cons (ps_set (i := 3) sc__products.nd rfl (.inr rfl) (pe_dictZip true k (K := K) rfl rfl (by rfl) B.dict (by rfl) B.zip (pa_cons (kfld (K := K) rfl (pv 1)) (pa_cons (pv 2) pa_nil))))
      (pss_cons (ps_set (i := 4) sc__products.nd rfl (.inl rfl) (pe_lst pa_nil))
      (pss_cons (ps_for PassesOwn.never rfl (kpit (K := K) rfl (kfld (K := K) rfl (pv 1))) (kgtup (K := K) (n := 2) rfl rfl (pgs_cons (pg_name (i := 5) sc__products.nd rfl (.inl rfl)) (pgs_cons (pg_name (i := 6) sc__products.nd rfl (.inl rfl)) pgs_nil)))
      (pss_one (ps_expr (pe_bm PySem.F.plainAttrs_list PySem.F.slot_list_append PySem.F.type_list_append mt_append (pv 4) (pa_cons (C8.pe_mt M_product hr (by omega) (pv 0) (pa_cons (pe_lc (own := [("base", 7), ("unknown", 8)]) (tt := tYes) rfl sc__products.nd (kpit (K := K) rfl (pv 6)) (blkOk_by (N := ["group", "statement", "exponents", "table", "products", "_", "factors", "base", "unknown"]) (sc := defScope s__products) (by decide +kernel))
        (fun _ _ _ _ _ => (kgtup (K := K) (n := 2) rfl rfl (pgs_cons (pg_name (i := 7) sc__products.nd rfl (.inl rfl)) (pgs_cons (pg_name (i := 8) sc__products.nd rfl (.inl rfl)) pgs_nil)))) (fun _ _ _ _ _ => pts_nil)
        (fun _ _ _ _ _ => (pe_tupF (pa_cons (pv 7) (pa_cons (pe_dget (hu_of hr) (pv 3) (pv 8) (fun _ _ => rfl)) pa_nil))))) pa_nil)) pa_nil)))))
      (pss_one (ps_ret (pv 4)))))),
    fn_run h (fun po => (s_seq (s_set fun _ => (a_dictZip (a_cons (a_fld T1.cl T1.n_unknowns (c := 1) (i := 0) rfl a_var) (a_cons a_var a_nil))))
      (s_seq (s_setO fun _ => (a_lst a_nil))
      (s_seq (s_for (vs := [5, 6]) (fun _ => (i_tup (a_fld T1.cl T1.n_equations (c := 1) (i := 1) rfl a_var))) (fun _ => (g_tup (g_cons (g_name (by decide)) (g_cons (g_name (by decide)) g_nil tot_name) tot_name)))
      (s_app fun _ => (a_meth (by decide) a_var (a_cons (a_fz (a_lc (vs := [7, 8]) (i_tup a_var) (g_tup (g_cons (g_name (by decide)) (g_cons (g_name (by decide)) g_nil tot_name) tot_name)) a_yes (a_tup (a_cons a_var (a_cons (a_dget a_var a_var) a_nil))))) a_nil))))
      (s_fz (i := 4) (s_ret fun _ => a_var)))))) (fun ds P a => by obtain ⟨_, _, _, _, _, _, rfl, _⟩ := a; exact Nat.le_of_ble_eq_true rfl) ?_⟩
  rintro ds P ⟨p, q, bs, us, eqs, xs, rfl, q0, p0, p1, so, hl, hp⟩
  refine ⟨rfl, kQ_sq (k := k) ⟨us, rfl, so.nd, ?_⟩⟩
  refine ⟨rfl, ?_⟩
  refine forA_map (fun i env => ∃ y5 y6, env = [.d (grpD p q bs), .d (stO us eqs), .d (sqD k (xs.map .int)), .d (.dK ((us.map Sum.inr).zip (xs.map .int))), .o ((sides p q us (eqs.take i) xs).map .int), y5, y6, .u, .u]) ⟨_, _, rfl⟩ ?_ ?_
  · rintro i e env hi ⟨y5, y6, rfl⟩ N hN
    have me := List.mem_of_getElem? hi
    have lt := (List.getElem?_eq_some_iff.mp hi).1
    have le := so.le
    refine ⟨by rw [List.length_map, sides, List.length_map, List.length_take]; omega, ⟨rfl, ?_⟩⟩
    refine ⟨by rw [List.length_map]; have := so.lf e me; omega, ?_⟩
    refine lcA_mapL (g := fun f => prT (f.1, look us xs f.2)) (fun x hx Q hQ => ?_) ?_
    · show oQ (dgetD _ _) _
      rw [dget_look (so.fu e me x hx) hl]
      exact hQ
    · refine ⟨p, q, bs, e.2.map fun f => (f.1, look us xs f.2), by rw [List.map_map]; rfl, q0, p0, p1, hN _ ⟨.d (.int e.1), .d (.tup (e.2.map fcD)), ?_⟩⟩
      rw [take_snoc hi, sides_snoc, List.map_append]
      rfl
  · rintro env ⟨y5, y6, rfl⟩
    show P (.lst ((sides p q us (eqs.take eqs.length) xs).map .int))
    rw [List.take_length]
    exact hp
def aspReplyK (k1 k2 : Bool) : ASp := fun ds P => ∃ (p q : Int) (bs vs ts : List Int) (c : Int), ds = [grpD p q bs, sqD k2 (vs.map .int), sqD k1 (ts.map .int), .int c] ∧ 0 < q ∧ q < 2147483648 ∧ vs.length ≤ 1000 ∧ -2147483648 < c ∧ c < 2147483648 ∧ (∀ v ∈ vs, -4294967296 < v ∧ v < 4294967296) ∧ P (.tup ((List.zipWith (fun t v => (t + c * v) % q) ts vs).map .int))
def aspReply : ASp := fun ds P => ∃ k1, ∃ k2, aspReplyK k1 k2 ds P
/-- the numbers of the first move that replies fit to -/
def firsts (p q : Int) (us : List Str) (eqs : List Eqn) (c : Int) (rs : List Int) : List Int := eqs.map fun e => prZ p q [(side p q us rs e, 1), (e.1, -c)]
theorem firsts_snoc (p q : Int) (us : List Str) (eqs : List Eqn) (e : Eqn) (c : Int) (rs : List Int) : firsts p q us (eqs ++ [e]) c rs = firsts p q us eqs c rs ++ [prZ p q [(side p q us rs e, 1), (e.1, -c)]] := List.map_append
theorem zip_map_r {α β : Type} (f : α → β) : ∀ xs : List α, xs.zip (xs.map f) = xs.map fun x => (x, f x)
  | [] => rfl
  | x :: xs => congrArg (_ :: ·) (zip_map_r f xs)
def aspSimK (k : Bool) : ASp := fun ds P => ∃ (p q : Int) (bs : List Int) (us : List Str) (eqs : List Eqn) (c : Int) (rs : List Int), ds = [grpD p q bs, stO us eqs, .int c, sqD k (rs.map .int)] ∧ 0 < q ∧ 1 < p ∧ p < 2147483648 ∧ StOk us eqs ∧ us.length ≤ rs.length ∧ P (.tup ((firsts p q us eqs c rs).map .int))
def aspSim : ASp := fun ds P => ∃ k, aspSimK k ds P
theorem ok_simulated {f : Addr} {fd : FuncData} (F : Fun K "simulated" "simulated" s_simulated f fd) (T1 : ST K (ca 1)) (B : Blt mg) (C__products : C8.Cal P w K mg base 4 "_products" (toSp K ca aspProducts) []) (M_product : C8.Met P w K mg base 3 (ca 0) "product" (toSp K ca aspProduct) []) :
    FnOk P w K mg base CX0 5 f fd ["group", "statement", "challenge", "replies"] (toSp K ca aspSim) := by
  refine F.ok sc_simulated (fun vs H Q E h => by obtain ⟨k, h⟩ := sp_ex h; exact sp_len (n := 4) (fun ds P a => by obtain ⟨_, _, _, _, _, _, _, rfl, _⟩ := a; rfl) h) (fun cdv A outer s H vs Q E hr h => ?_)
  obtain ⟨k, h⟩ := sp_ex h
  refine ⟨_, (pss_cons (ps_set (i := 4) sc_simulated.nd rfl (.inl rfl) (C8.pe_c C__products hr (by omega) rfl (pa_cons (pv 0) (pa_cons (pv 1) (pa_cons (pv 3) pa_nil)))))
      (pss_cons (ps_set (i := 5) sc_simulated.nd rfl (.inl rfl) (pe_lst pa_nil))
      (pss_cons (ps_for PassesOwn.never rfl (pi_zipF true false (K := K) rfl (by rfl) B.zip (pa_cons (kfld (K := K) rfl (pv 1)) (pa_cons (pv 4) pa_nil))) (kgtup (K := K) (n := 2) rfl rfl (pgs_cons (kgtup (K := K) (n := 2) rfl rfl (pgs_cons (pg_name (i := 6) sc_simulated.nd rfl (.inl rfl)) (pgs_cons (pg_name (i := 7) sc_simulated.nd rfl (.inl rfl)) pgs_nil))) (pgs_cons (pg_name (i := 8) sc_simulated.nd rfl (.inl rfl)) pgs_nil)))
      (pss_one (ps_expr (pe_bm PySem.F.plainAttrs_list PySem.F.slot_list_append PySem.F.type_list_append mt_append (pv 5) (pa_cons (C8.pe_mt M_product hr (by omega) (pv 0) (pa_cons (pe_lst (pa_cons (pe_tupF (pa_cons (pv 8) (pa_cons pe_int pa_nil))) (pa_cons (pe_tupF (pa_cons (pv 6) (pa_cons (pe_un un_neg (pv 2)) pa_nil))) pa_nil))) pa_nil)) pa_nil)))))
      (pss_one (ps_ret (pe_callTy (ktupF (K := K) rfl) (by rfl) B.tuple bt_tuple (pa_cons (pv 5) pa_nil))))))),
    fn_run h (fun po => (s_seq (s_set fun _ => (a_call (a_cons a_var (a_cons a_var (a_cons a_var a_nil)))))
      (s_seq (s_setO fun _ => (a_lst a_nil))
      (s_seq (s_for (vs := [8, 6, 7]) (fun _ => (i_zip (a_cons (a_fld T1.cl T1.n_equations (c := 1) (i := 1) rfl a_var) (a_cons a_var a_nil)))) (fun _ => (g_tup (g_cons (g_tup (g_cons (g_name (by decide)) (g_cons (g_name (by decide)) g_nil tot_name) tot_name)) (g_cons (g_name (by decide)) g_nil tot_name) (tot_tup (tot_cons tot_name (tot_cons tot_name tot_nil))))))
      (s_app fun _ => (a_meth (by decide) a_var (a_cons (a_fz (a_lst (a_cons (a_tup (a_cons a_var (a_cons a_int a_nil))) (a_cons (a_tup (a_cons a_var (a_cons (a_neg a_var) a_nil))) a_nil)))) a_nil))))
      (s_ret fun _ => (a_b1 u_tupOf a_peek)))))) (fun ds P a => by obtain ⟨_, _, _, _, _, _, _, rfl, _⟩ := a; exact Nat.le_of_ble_eq_true rfl) ?_⟩
  rintro ds P ⟨p, q, bs, us, eqs, c, rs, rfl, q0, p0, p1, so, hl, hp⟩
  refine ⟨k, p, q, bs, us, eqs, rs, rfl, q0, p0, p1, so, hl, ?_⟩
  refine ⟨rfl, ?_⟩
  show forA _ _ _ (zipD (eqs.map eqD) ((sides p q us eqs rs).map Dat.int)) _
  rw [zipD_map, sides, zip_map_r, List.map_map]
  refine forA_map (fun i env => ∃ y6 y7 y8, env = [.d (grpD p q bs), .d (stO us eqs), .d (.int c), .d (sqD k (rs.map .int)), .d (.lst ((sides p q us eqs rs).map .int)), .o ((firsts p q us (eqs.take i) c rs).map .int), y6, y7, y8]) ⟨_, _, _, rfl⟩ ?_ ?_
  · rintro i e env hi ⟨y6, y7, y8, rfl⟩ N hN
    have lt := (List.getElem?_eq_some_iff.mp hi).1
    have le := so.le
    refine ⟨by rw [List.length_map, firsts, List.length_map, List.length_take]; omega, ⟨rfl, ?_⟩⟩
    refine ⟨p, q, bs, [(side p q us rs e, 1), (e.1, -c)], rfl, q0, p0, p1, hN _ ⟨.d (.int e.1), .d (.tup (e.2.map fcD)), .d (.int (side p q us rs e)), ?_⟩⟩
    rw [take_snoc hi, firsts_snoc, List.map_append]
    rfl
  · rintro env ⟨y6, y7, y8, rfl⟩
    show P (.tup ((firsts p q us (eqs.take eqs.length) c rs).map .int))
    rw [List.take_length]
    exact hp
end

/-! ### readings over data, worked out -/
section
variable {P : Dat → Prop} {p q : Prop}
theorem two_t : two true p q = p := rfl
theorem two_f : two false p q = q := rfl
theorem bQ_bl {b : Bool} {P : Bool → Prop} : bQ (.bl b) P = P b := rfl
theorem dQ_d {x : Dat} : dQ (.d x) P = P x := rfl
theorem dQ2_d {x : Dat} : dQ2 (.d x) P = P x := rfl
theorem dQ2_o {xs : List Dat} : dQ2 (.o xs) P = P (.lst xs) := rfl
theorem oQ_some {α : Type} {x : α} {P : α → Prop} : oQ (some x) P = P x := rfl
theorem oQ2_o {xs : List Dat} {P : List Dat → Prop} : oQ2 (.o xs) P = P xs := rfl
theorem lQ_lst {xs : List Dat} {P : List Dat → Prop} : lQ (.lst xs) P = P xs := rfl
theorem tQ_tup {xs : List Dat} {P : List Dat → Prop} : tQ (.tup xs) P = P xs := rfl
theorem sQ_lst {xs : List Dat} {P : List Dat → Prop} : sQ (.lst xs) P = P xs := rfl
theorem sQ_tup {xs : List Dat} {P : List Dat → Prop} : sQ (.tup xs) P = P xs := rfl
theorem kQ_t {xs : List Dat} {P : List Dat → Prop} : kQ true (.tup xs) P = P xs := rfl
theorem kQ_l {xs : List Dat} {P : List Dat → Prop} : kQ false (.lst xs) P = P xs := rfl
theorem kI_i {C : Int → Int → Prop} {g : Int → Int → Dat} {i j : Int} : kI C g (.int i) (.int j) P = (C i j ∧ P (g i j)) := rfl
theorem kI0_i {g : Int → Int → Dat} {i j : Int} : kI0 g (.int i) (.int j) P = P (g i j) := rfl
theorem kEq_i {n : Bool} {i j : Int} : kEq n (.int i) (.int j) P = P (.bl (if n then !decide (i = j) else decide (i = j))) := rfl
theorem kEq_s {n : Bool} {i j : Str} : kEq n (.str i) (.str j) P = P (.bl (if n then !decide (i = j) else decide (i = j))) := rfl
theorem kEq_b {n : Bool} {i j : Bool} : kEq n (.bl i) (.bl j) P = P (.bl (if n then !decide (i = j) else decide (i = j))) := rfl
theorem kFld_o {c i : Nat} {ds : List Dat} : kFld c i (.obj c ds) P = oQ ds[i]? P := propext ⟨fun h => h.2, fun h => ⟨rfl, h⟩⟩
theorem kIx_l {xs : List Dat} {i : Int} : kIx (.lst xs) (.int i) P = oQ (atI xs i) P := rfl
theorem kIx_t {xs : List Dat} {i : Int} : kIx (.tup xs) (.int i) P = oQ (atI xs i) P := rfl
theorem atD {α : Type} {xs : List α} {z : Int} {j : Nat} {v : α} (e : z = (j : Int)) (h : xs[j]? = some v) : atI xs z = some v := by
  have lt := (List.getElem?_eq_some_iff.mp h).1
  unfold atI ixN
  rw [if_pos (by omega), if_pos (by omega)]
  show xs[z.toNat]? = _
  rw [e, Int.toNat_natCast]
  exact h
theorem atI_0 {α : Type} {x : α} {xs : List α} : atI (x :: xs) 0 = some x := by
  show atI _ ((0 : Nat) : Int) = _
  exact atD rfl rfl
theorem atI_1 {α : Type} {x y : α} {xs : List α} : atI (x :: y :: xs) 1 = some y := by
  show atI _ ((1 : Nat) : Int) = _
  exact atD rfl rfl
theorem atI_2 {α : Type} {x y z : α} {xs : List α} : atI (x :: y :: z :: xs) 2 = some z := by
  show atI _ ((2 : Nat) : Int) = _
  exact atD rfl rfl
theorem atI_3 {α : Type} {x y z t : α} {xs : List α} : atI (x :: y :: z :: t :: xs) 3 = some t := by
  show atI _ ((3 : Nat) : Int) = _
  exact atD rfl rfl
theorem kSum_i {ns : List Int} (h : P (.int ns.sum)) : kSum (.lst (ns.map .int)) P := ⟨ns, rfl, h⟩
theorem kMax2_i {i j : Int} : kMax2 (.int i) (.int j) P = P (.int (if j > i then j else i)) := rfl
theorem kCatT_t {xs ys : List Dat} : kCatT (.tup xs) (.tup ys) P = (xs.length + ys.length ≤ 100000 ∧ P (.tup (xs ++ ys))) := rfl
theorem kCatL_l {xs ys : List Dat} {P : List Dat → Prop} : kCatL (.lst xs) (.lst ys) P = (xs.length + ys.length ≤ 100000 ∧ P (xs ++ ys)) := rfl
theorem kCatS_s {x y : Str} : kCatS (.str x) (.str y) P = (x.length + y.length ≤ 100000 ∧ P (.str (x ++ y))) := rfl
theorem kInt_i {i : Int} : kInt (.int i) P = P (.int i) := rfl
theorem kNeg_i {i : Int} : kNeg (.int i) P = P (.int (-i)) := rfl
theorem kStr_i {i : Int} : kStr (.int i) P = (i.natAbs < 1000000 ∧ P (.str (toString i))) := rfl
theorem kIsO_o {c : Nat} {ds : List Dat} : kIsO c (.obj c ds) P = P (.bl true) := propext ⟨fun h => h.2, fun h => ⟨rfl, h⟩⟩
theorem aTest_eq {ea : AEx} {env : List Sl} {P : Bool → Prop} : aTest ea env P = ea env fun x => bQ x P := by
  unfold aTest
  congr
  funext x
  cases x <;> rfl
theorem aMeth_eq {c : Nat} {asp : ASp} {ea : AEx} {aa : AFr} {env : List Sl} : aMeth c asp ea aa env P = ea env fun x => (match x with | .obj c' _ => c' = c | _ => False) ∧ aa env fun ds => asp (x :: ds) P := rfl
theorem gCons_c {g : ATg} {ag : List Dat → List Sl → (List Sl → Prop) → Prop} {d : Dat} {ds : List Dat} {env : List Sl} {P : List Sl → Prop} : gConsA g ag (d :: ds) env P = g d env fun env2 => ag ds env2 P := rfl
theorem gNil_n {env : List Sl} {P : List Sl → Prop} : gNilA [] env P = P env := rfl
theorem sPar_eq {i j : Nat} {aa : AFr} {D : AEnds} {env : List Sl} : sPar i j aa D env = aa env fun ds => (match ds with | [x, y] => D.nx ((env.set i (.d x)).set j (.d y)) | _ => False) := rfl
theorem iRan_1 {j : Int} {aa : AFr} {env : List Sl} {P : List Dat → Prop} : iRan aa env P = aa env fun ds => match ds with
  | [.int j] => j < 1000000000000 ∧ -1000000000000 < j ∧ P ((List.range j.toNat).map fun (i : Nat) => Dat.int (0 + (i : Int)))
  | [.int i, .int j] => (j < 1000000000000 ∧ -1000000000000 < j ∧ i < 1000000000000 ∧ -1000000000000 < i) ∧ P ((List.range (j - i).toNat).map fun (n : Nat) => Dat.int (i + (n : Int)))
  | _ => False := rfl
theorem iZip_2 {k1 k2 : Bool} {aa : AFr} {env : List Sl} {P : List Dat → Prop} {x y : Dat} (h : kQ k1 x fun xs => kQ k2 y fun ys => P (zipD xs ys)) : (match [x, y] with | [x, y] => kQ k1 x fun xs => kQ k2 y fun ys => P (zipD xs ys) | _ => False) := h
theorem dAt_0 {s : Sl} {r : List Sl} : dAt (s :: r) 0 = s := rfl
theorem dAt_s {s : Sl} {r : List Sl} {i : Nat} : dAt (s :: r) (i + 1) = dAt r i := rfl
end
section
variable {T : String} {P : Dat → Prop}
theorem kIsT_non : kIsT T .non P = P (.bl (decide ("NoneType" = T) || (decide ("NoneType" = "bool") && decide (T = "int")))) := rfl
theorem kIsT_bl {b : Bool} : kIsT T (.bl b) P = P (.bl (decide ("bool" = T) || (decide ("bool" = "bool") && decide (T = "int")))) := rfl
theorem kIsT_int {b : Int} : kIsT T (.int b) P = P (.bl (decide ("int" = T) || (decide ("int" = "bool") && decide (T = "int")))) := rfl
theorem kIsT_str {b : Str} : kIsT T (.str b) P = P (.bl (decide ("str" = T) || (decide ("str" = "bool") && decide (T = "int")))) := rfl
theorem kIsT_lst {b : List Dat} : kIsT T (.lst b) P = P (.bl (decide ("list" = T) || (decide ("list" = "bool") && decide (T = "int")))) := rfl
theorem kIsT_tup {b : List Dat} : kIsT T (.tup b) P = P (.bl (decide ("tuple" = T) || (decide ("tuple" = "bool") && decide (T = "int")))) := rfl
theorem kIsN_non {n : Bool} : kIsN n .non .non P = P (.bl (!n)) := rfl
theorem kIsN_bl {n b : Bool} : kIsN n (.bl b) .non P = P (.bl n) := rfl
theorem kIsN_int {n : Bool} {b : Int} : kIsN n (.int b) .non P = P (.bl n) := rfl
theorem kIsN_str {n : Bool} {b : Str} : kIsN n (.str b) .non P = P (.bl n) := rfl
theorem kIsN_lst {n : Bool} {b : List Dat} : kIsN n (.lst b) .non P = P (.bl n) := rfl
theorem kIsN_tup {n : Bool} {b : List Dat} : kIsN n (.tup b) .non P = P (.bl n) := rfl
theorem kIsN_obj {n : Bool} {c : Nat} {b : List Dat} : kIsN n (.obj c b) .non P = P (.bl n) := rfl
theorem kEq_nn {n : Bool} : kEq n .non .non P = P (.bl (!n)) := rfl
end
theorem lcA_filL {α : Type} {f : α → Dat} {xs : List α} {el : Dat → (Option Dat → Prop) → Prop} {P : List Dat → Prop} (g : α → Dat) (c : α → Bool) (h : ∀ x ∈ xs, ∀ Q : Option Dat → Prop, (c x = true → Q (some (g x))) → (c x = false → Q none) → el (f x) Q) (k : P ((xs.filter c).map g)) : lcA el P (xs.map f) [] := by
  have gen : ∀ (ys : List α) (acc : List Dat), (∀ x ∈ ys, ∀ Q : Option Dat → Prop, (c x = true → Q (some (g x))) → (c x = false → Q none) → el (f x) Q) → P (acc ++ (ys.filter c).map g) → lcA el P (ys.map f) acc := by
    intro ys
    induction ys with
    | nil =>
      intro acc _ k
      rw [List.filter_nil, List.map_nil, List.append_nil] at k
      exact k
    | cons y ys ih =>
      intro acc h k
      refine h y List.mem_cons_self _ (fun e => ?_) (fun e => ?_)
      · show lcA el P (ys.map f) (acc ++ [g y])
        refine ih _ (fun x hx => h x (List.mem_cons_of_mem _ hx)) ?_
        rw [List.filter_cons, e, if_pos rfl, List.map_cons] at k
        rw [List.append_assoc]
        exact k
      · show lcA el P (ys.map f) acc
        refine ih _ (fun x hx => h x (List.mem_cons_of_mem _ hx)) ?_
        rw [List.filter_cons, e, if_neg Bool.false_ne_true] at k
        exact k
  exact gen xs [] h k
theorem mem_ints {x : Int} {xs : List Int} : Dat.int x ∈ xs.map Dat.int ↔ x ∈ xs := ⟨fun h => by
  obtain ⟨y, hy, e⟩ := List.mem_map.mp h
  cases e
  exact hy, fun h => List.mem_map.mpr ⟨x, h, rfl⟩⟩
theorem flat_all (xs : List Int) : (xs.map Dat.int).all flatD = true := List.all_eq_true.mpr fun d hd => by
  obtain ⟨y, hy, e⟩ := List.mem_map.mp hd
  subst e
  rfl
theorem kIn_i {n : Bool} {x : Int} {xs : List Int} {P : Dat → Prop} (h : P (.bl (if n then !decide (x ∈ xs) else decide (x ∈ xs)))) : kIn n (.int x) (.lst (xs.map .int)) P := ⟨rfl, flat_all xs, fun b hb => by
  have e : b = decide (x ∈ xs) := by
    rw [mem_ints] at hb
    by_cases hx : x ∈ xs
    · rw [decide_eq_true hx]
      exact hb.mpr hx
    · rw [decide_eq_false hx]
      exact Bool.eq_false_iff.mpr fun z => hx (hb.mp z)
  subst e
  exact h⟩
theorem ix_any {α : Type} {f : α → Dat} {xs : List α} {v : Int} {P : Dat → Prop} (h0 : 0 ≤ v) (h1 : v < xs.length) (h : ∀ x ∈ xs, P (f x)) : kIx (.lst (xs.map f)) (.int v) P := by
  have lt : v.toNat < xs.length := by omega
  rw [kIx_l, atD (j := v.toNat) (v := f xs[v.toNat]) (by omega) (by rw [List.getElem?_map, List.getElem?_eq_getElem lt]; rfl)]
  exact h _ (List.getElem_mem lt)
theorem ix_anyT {α : Type} {f : α → Dat} {xs : List α} {v : Int} {P : Dat → Prop} (h0 : 0 ≤ v) (h1 : v < xs.length) (h : ∀ x ∈ xs, P (f x)) : kIx (.tup (xs.map f)) (.int v) P := ix_any (f := f) h0 h1 h
theorem ix_at {α : Type} {f : α → Dat} {xs : List α} {v : Int} {j : Nat} {x : α} {P : Dat → Prop} (e : v = (j : Int)) (h1 : xs[j]? = some x) (h : P (f x)) : kIx (.lst (xs.map f)) (.int v) P := by
  rw [kIx_l, atD (j := j) (v := f x) e (by rw [List.getElem?_map, h1]; rfl)]
  exact h
theorem ix_atT {α : Type} {f : α → Dat} {xs : List α} {v : Int} {j : Nat} {x : α} {P : Dat → Prop} (e : v = (j : Int)) (h1 : xs[j]? = some x) (h : P (f x)) : kIx (.tup (xs.map f)) (.int v) P := ix_at (f := f) e h1 h
theorem ix_two {x y : Dat} {v : Int} {P : Dat → Prop} (h0 : 0 ≤ v) (h1 : v < 2) (hx : P x) (hy : P y) : kIx (.tup [x, y]) (.int v) P := by
  by_cases h : v = 0
  · subst h
    rw [kIx_t, atI_0]
    exact hx
  · have : v = 1 := by omega
    subst this
    rw [kIx_t, atI_1]
    exact hy
theorem oa_at {α : Type} {f : α → Dat} {xs : List α} {v : Int} {j : Nat} {x : α} {P : Dat → Prop} (e : v = (j : Int)) (h1 : xs[j]? = some x) (h : P (f x)) : oQ (atI (xs.map f) v) P := ix_at (f := f) e h1 h
theorem oa_any {α : Type} {f : α → Dat} {xs : List α} {v : Int} {P : Dat → Prop} (h0 : 0 ≤ v) (h1 : v < xs.length) (h : ∀ x ∈ xs, P (f x)) : oQ (atI (xs.map f) v) P := ix_any (f := f) h0 h1 h
/-! statements, a step each; not by rfl, so that the kernel need not find the way -/
section
variable {a b : ASt} {D : AEnds} {env : List Sl}
theorem sNext_e : sNext D env = D.nx env := Eq.trans rfl rfl
theorem sSeq_e : sSeq a b D env = a { nx := b D, rt := D.rt, bk := D.bk, ct := D.ct } env := Eq.trans rfl rfl
theorem sIf_e {c : ATs} : sIf c a b D env = c env fun t => two t (a D env) (b D env) := Eq.trans rfl rfl
theorem sAsg_e {ea : AEx} {g : ATg} : sAsg ea g D env = ea env fun d => g d env D.nx := Eq.trans rfl rfl
theorem sSetO_e {i : Nat} {af : AFr} : sSetO i af D env = af env fun ds => D.nx (env.set i (.o ds)) := Eq.trans rfl rfl
theorem sRet_e {ea : AEx} : sRet ea D env = ea env D.rt := Eq.trans rfl rfl
theorem sRetN_e : sRetN D env = D.rt .non := Eq.trans rfl rfl
theorem sDrop_e {ea : AEx} : sDrop ea D env = ea env fun _ => D.nx env := Eq.trans rfl rfl
theorem sFz_e {i : Nat} : sFz i a D env = oQ2 (dAt env i) fun xs => a D (env.set i (.d (.lst xs))) := Eq.trans rfl rfl
theorem sApp_e {i : Nat} {ea : AEx} : sApp i ea D env = oQ2 (dAt env i) fun xs => xs.length < 100000 ∧ ea env fun d => D.nx (env.set i (.o (xs ++ [d]))) := Eq.trans rfl rfl
theorem sAug_e {i : Nat} {ea : AEx} {f : Dat → Dat → (Dat → Prop) → Prop} : sAug i ea f D env = dQ (dAt env i) fun x => ea env fun y => f x y fun z => D.nx (env.set i (.d z)) := Eq.trans rfl rfl
theorem sFor_e {ai : AFr} {g : ATg} : sFor ai g b D env = ai env fun ds => forA g b D ds env := Eq.trans rfl rfl
end

local macro_rules | `(tactic| walk_at "dd") => `(tactic| simp only [elA, sSeq, sNext, sIf, sAsg, sSetO, sRet, sRetN, sDrop, sPar, sFz, sApp, sAug, sFor, oQ2_o, dQ_d, dQ2_d, dQ2_o, dAt_0, dAt_s, aVar, aPeek, aC, aFz, a2, a2F, a1, a1F, aCons, aNil, aTup, aTest_eq, aNot, aAnd, aOr, bQ_bl, aAndV, aOrV, aNotV, aIf, aChain, kI_i, kI0_i, kEq_i, kEq_s, kEq_b, kFld_o, oQ_some, aCall, aMeth, aMake, iSeq, lQ_lst, tQ_tup, sQ_lst, sQ_tup, iRan, gA, gTu, gNil_n, gCons_c, aLc, wipeA, kLen, kTupOf, kQ_t, kQ_l, iZipA, iEnA, aSlF, aSlT, aoN, aoS, aRevT, aRevL, kMax2_i, kCatS_s, kCatT_t, kCatL_l, kInt_i, kNeg_i, true_and, aYes, iCons, iNil, iDrop, kIsO_o, two_t, two_f, kIx_l, kIx_t, atI_0, atI_1, atI_2, atI_3, Bool.false_eq_true, if_false, if_true, kStr_i, kIsT_non, kIsT_bl, kIsT_int, kIsT_str, kIsT_lst, kIsT_tup, kIsN_non, kIsN_bl, kIsN_int, kIsN_str, kIsN_lst, kIsN_tup, kIsN_obj, kEq_nn, String.reduceEq, decide_true, decide_false, Bool.or_false, Bool.false_or, Bool.true_or, Bool.or_true, Bool.and_true, Bool.true_and, Bool.and_false, Bool.false_and, Bool.not_true, Bool.not_false, reduceCtorEq,
  List.map_cons, List.map_nil, List.cons_append, List.nil_append, List.length_cons, List.length_nil, Nat.reduceAdd, Nat.reduceSub, List.replicate_succ, List.replicate_zero, List.set_cons_zero, List.set_cons_succ, List.getElem?_cons_zero, List.getElem?_cons_succ])
local macro_rules | `(tactic| walk_at "dx") => `(tactic| simp only [elA, sNext, sAsg, sSetO, sRet, sRetN, sDrop, sPar, sFz, sApp, sAug, sFor, oQ2_o, dQ_d, dQ2_d, dQ2_o, dAt_0, dAt_s, aVar, aPeek, aC, aFz, a2, a2F, a1, a1F, aCons, aNil, aTup, aTest_eq, aNot, aAnd, aOr, bQ_bl, aAndV, aOrV, aNotV, aIf, aChain, kI_i, kI0_i, kEq_i, kEq_s, kEq_b, kFld_o, oQ_some, aCall, aMeth, aMake, iSeq, lQ_lst, tQ_tup, sQ_lst, sQ_tup, iRan, gA, gTu, gNil_n, gCons_c, aLc, wipeA, kLen, kTupOf, kQ_t, kQ_l, iZipA, iEnA, aSlF, aSlT, aoN, aoS, aRevT, aRevL, kMax2_i, kCatS_s, kCatT_t, kCatL_l, kInt_i, kNeg_i, true_and, aYes, iCons, iNil, iDrop, kIsO_o, two_t, two_f, kIx_l, kIx_t, atI_0, atI_1, atI_2, atI_3, Bool.false_eq_true, if_false, if_true, kStr_i, kIsT_non, kIsT_bl, kIsT_int, kIsT_str, kIsT_lst, kIsT_tup, kIsN_non, kIsN_bl, kIsN_int, kIsN_str, kIsN_lst, kIsN_tup, kIsN_obj, kEq_nn, String.reduceEq, decide_true, decide_false, Bool.or_false, Bool.false_or, Bool.true_or, Bool.or_true, Bool.and_true, Bool.true_and, Bool.and_false, Bool.false_and, Bool.not_true, Bool.not_false, reduceCtorEq,
  List.map_cons, List.map_nil, List.cons_append, List.nil_append, List.length_cons, List.length_nil, Nat.reduceAdd, Nat.reduceSub, List.replicate_succ, List.replicate_zero, List.set_cons_zero, List.set_cons_succ, List.getElem?_cons_zero, List.getElem?_cons_succ])
local macro_rules | `(tactic| walk_at "dk") => `(tactic| simp -implicitDefEqProofs only [elA, sSeq, sNext, sIf, sAsg, sSetO, sRet, sRetN, sDrop, sPar, sFz, sApp, sAug, sFor, oQ2_o, dQ_d, dQ2_d, dQ2_o, dAt_0, dAt_s, aVar, aPeek, aC, aFz, a2, a2F, a1, a1F, aCons, aNil, aTup, aTest_eq, aNot, aAnd, aOr, bQ_bl, aAndV, aOrV, aNotV, aIf, aChain, kI_i, kI0_i, kEq_i, kEq_s, kEq_b, kFld_o, oQ_some, aCall, aMeth, aMake, iSeq, lQ_lst, tQ_tup, sQ_lst, sQ_tup, iRan, gA, gTu, gNil_n, gCons_c, aLc, wipeA, kLen, kTupOf, kQ_t, kQ_l, iZipA, iEnA, aSlF, aSlT, aoN, aoS, aRevT, aRevL, kMax2_i, kCatS_s, kCatT_t, kCatL_l, kInt_i, kNeg_i, true_and, aYes, iCons, iNil, iDrop, kIsO_o, two_t, two_f, kIx_l, kIx_t, atI_0, atI_1, atI_2, atI_3, Bool.false_eq_true, if_false, if_true, kStr_i, kIsT_non, kIsT_bl, kIsT_int, kIsT_str, kIsT_lst, kIsT_tup, kIsN_non, kIsN_bl, kIsN_int, kIsN_str, kIsN_lst, kIsN_tup, kIsN_obj, kEq_nn, String.reduceEq, decide_true, decide_false, Bool.or_false, Bool.false_or, Bool.true_or, Bool.or_true, Bool.and_true, Bool.true_and, Bool.and_false, Bool.false_and, Bool.not_true, Bool.not_false, reduceCtorEq,
  List.map_cons, List.map_nil, List.cons_append, List.nil_append, List.length_cons, List.length_nil, Nat.reduceAdd, Nat.reduceSub, List.replicate_succ, List.replicate_zero, List.set_cons_zero, List.set_cons_succ, List.getElem?_cons_zero, List.getElem?_cons_succ])
local macro_rules | `(tactic| walk_at "dy") => `(tactic| simp -implicitDefEqProofs only [elA, sNext, sAsg, sSetO, sRet, sRetN, sDrop, sPar, sFz, sApp, sAug, sFor, oQ2_o, dQ_d, dQ2_d, dQ2_o, dAt_0, dAt_s, aVar, aPeek, aC, aFz, a2, a2F, a1, a1F, aCons, aNil, aTup, aTest_eq, aNot, aAnd, aOr, bQ_bl, aAndV, aOrV, aNotV, aIf, aChain, kI_i, kI0_i, kEq_i, kEq_s, kEq_b, kFld_o, oQ_some, aCall, aMeth, aMake, iSeq, lQ_lst, tQ_tup, sQ_lst, sQ_tup, iRan, gA, gTu, gNil_n, gCons_c, aLc, wipeA, kLen, kTupOf, kQ_t, kQ_l, iZipA, iEnA, aSlF, aSlT, aoN, aoS, aRevT, aRevL, kMax2_i, kCatS_s, kCatT_t, kCatL_l, kInt_i, kNeg_i, true_and, aYes, iCons, iNil, iDrop, kIsO_o, two_t, two_f, kIx_l, kIx_t, atI_0, atI_1, atI_2, atI_3, Bool.false_eq_true, if_false, if_true, kStr_i, kIsT_non, kIsT_bl, kIsT_int, kIsT_str, kIsT_lst, kIsT_tup, kIsN_non, kIsN_bl, kIsN_int, kIsN_str, kIsN_lst, kIsN_tup, kIsN_obj, kEq_nn, String.reduceEq, decide_true, decide_false, Bool.or_false, Bool.false_or, Bool.true_or, Bool.or_true, Bool.and_true, Bool.true_and, Bool.and_false, Bool.false_and, Bool.not_true, Bool.not_false, reduceCtorEq,
  List.map_cons, List.map_nil, List.cons_append, List.nil_append, List.length_cons, List.length_nil, Nat.reduceAdd, Nat.reduceSub, List.replicate_succ, List.replicate_zero, List.set_cons_zero, List.set_cons_succ, List.getElem?_cons_zero, List.getElem?_cons_succ])

abbrev s_holds : Stmt := top 8
theorem sc_holds : FnScope ["group", "statement", "values", "element", "_"] ["group", "statement", "values"] (defScope s_holds) := ⟨rfl, rfl, rfl, by decide +kernel, rfl, by decide +kernel, by decide +kernel⟩
abbrev s_Statement___eq__ : Stmt := inClass (top 5) 1
theorem sc_Statement___eq__ : FnScope ["self", "other"] ["self", "other"] (defScope s_Statement___eq__) := ⟨rfl, rfl, rfl, by decide +kernel, rfl, by decide +kernel, by decide +kernel⟩
theorem okE_str {x : Str} (h : PyData.strOk x = true) (n : Nat) : okE n (.str x) := ⟨h, Nat.zero_le n⟩
theorem okE_maps {α : Type} {f : α → Dat} {n : Nat} {xs : List α} (h : ∀ x ∈ xs, okE n (f x)) : ∀ d ∈ xs.map f, okE n d := fun d hd => by
  obtain ⟨x, hx, rfl⟩ := List.mem_map.mp hd
  exact h x hx
theorem okE_two {a b : Dat} {n : Nat} (h1 : okE n a) (h2 : okE n b) : ∀ d ∈ [a, b], okE n d := fun d hd => by
  rcases List.mem_cons.mp hd with rfl | hd
  · exact h1
  · rw [List.mem_singleton.mp hd]
    exact h2
theorem fcD_inj {x y : Fac} (h : fcD x = fcD y) : x = y := by
  obtain ⟨a, b⟩ := x
  obtain ⟨c, d⟩ := y
  simp only [fcD, Dat.tup.injEq, List.cons.injEq, Dat.int.injEq, Dat.str.injEq, and_true] at h
  rw [h.1, h.2]
theorem map_inj {α : Type} {f : α → Dat} (h : ∀ x y, f x = f y → x = y) : ∀ {xs ys : List α}, xs.map f = ys.map f → xs = ys
  | [], [], _ => rfl
  | [], _ :: _, e => by cases e
  | _ :: _, [], e => by cases e
  | x :: xs, y :: ys, e => by
    rw [List.map_cons, List.map_cons, List.cons.injEq] at e
    rw [h _ _ e.1, map_inj h e.2]
theorem eqD_inj {x y : Eqn} (h : eqD x = eqD y) : x = y := by
  obtain ⟨a, b⟩ := x
  obtain ⟨c, d⟩ := y
  simp only [eqD, Dat.tup.injEq, List.cons.injEq, Dat.int.injEq, and_true] at h
  rw [h.1, map_inj (fun _ _ => fcD_inj) h.2]
theorem ints_inj {xs ys : List Int} (h : xs.map Dat.int = ys.map Dat.int) : xs = ys := map_inj (fun _ _ => Dat.int.inj) h
theorem strs_inj {xs ys : List Str} (h : xs.map Dat.str = ys.map Dat.str) : xs = ys := map_inj (fun _ _ => Dat.str.inj) h
theorem okE_eqD {us : List Str} {eqs : List Eqn} (h : StOk us eqs) : ∀ e ∈ eqs, okE 3 (eqD e) := fun e he =>
  okE_tup (n := 2) (okE_two (okE_int _ _) (okE_tup (n := 1) (okE_maps fun f hf => okE_tup (n := 0) (okE_two (okE_int _ _) (okE_str (h.so _ (h.fu e he f hf)) 0)))))
section
variable {P : Program} {w : World} {K : PySem.W.Frag} {mg : Str → Option Value} {base : Heap} {ca : Nat → Addr}
def aspHoldsK (k : Bool) : ASp := fun ds P => ∃ (p q : Int) (bs : List Int) (us : List Str) (eqs : List Eqn) (xs : List Int), ds = [grpD p q bs, stO us eqs, sqD k (xs.map .int)] ∧ 0 < q ∧ 1 < p ∧ p < 2147483648 ∧ StOk us eqs ∧ ∀ b : Bool, (b = true ↔ xs.length = us.length ∧ sides p q us eqs xs = eqs.map (·.1)) → P (.bl b)
def aspHolds : ASp := fun ds P => ∃ k, aspHoldsK k ds P
theorem ok_holds {f : Addr} {fd : FuncData} (F : Fun K "holds" "holds" s_holds f fd) (T1 : ST K (ca 1)) (B : Blt mg) (C__products : C8.Cal P w K mg base 4 "_products" (toSp K ca aspProducts) []) : FnOk P w K mg base CX0 5 f fd ["group", "statement", "values"] (toSp K ca aspHolds) := by
  refine F.ok sc_holds (fun vs H Q E h => by obtain ⟨k, h⟩ := sp_ex h; exact sp_len (n := 3) (fun ds P a => by obtain ⟨_, _, _, _, _, _, rfl, _⟩ := a; rfl) h) (fun cdv A outer s H vs Q E hr h => ?_)
  obtain ⟨k, h⟩ := sp_ex h
  refine ⟨_, (pss_cons (ps_if (pt_cmpR op_ne (pe_callB (klen (K := K) rfl) (by rfl) B.len bt_len (pa_cons (pv 2) pa_nil)) (pe_callB (klen (K := K) rfl) (by rfl) B.len bt_len (pa_cons (kfld (K := K) rfl (pv 1)) pa_nil)) (nomark _)) (pss_one (ps_ret pe_bl)) pss_nil)
      (pss_one (ps_ret (pe_cmpR (keqd (K := K) rfl hr.units) (C8.pe_c C__products hr (by omega) rfl (pa_cons (pv 0) (pa_cons (pv 1) (pa_cons (pv 2) pa_nil)))) (pe_lc (own := [("element", 3), ("_", 4)]) (tt := tYes) rfl sc_holds.nd (kpit (K := K) rfl (kfld (K := K) rfl (pv 1))) (blkOk_by (N := ["group", "statement", "values", "element", "_"]) (sc := defScope s_holds) (by decide +kernel))
        (fun _ _ _ _ _ => (kgtup (K := K) (n := 2) rfl rfl (pgs_cons (pg_name (i := 3) sc_holds.nd rfl (.inl rfl)) (pgs_cons (pg_name (i := 4) sc_holds.nd rfl (.inl rfl)) pgs_nil)))) (fun _ _ _ _ _ => pts_nil)
        (fun _ _ _ _ _ => (pv 3))) (nomark _))))),
    fn_run h (fun po => (s_seq (s_if (fun _ => (a_test (a_op pst_rv rok_ne (a_b1 u_len (a_pk a_var)) (a_b1 u_len (a_pk (a_fld T1.cl T1.n_unknowns (c := 1) (i := 0) rfl a_var)))))) (s_ret fun _ => a_bl) s_next)
      (s_ret fun _ => (a_op pst_pk rok_eqD (a_pk (a_call (a_cons a_var (a_cons a_var (a_cons a_var a_nil))))) (a_pk (a_fz (a_lc (vs := [3, 4]) (i_tup (a_fld T1.cl T1.n_equations (c := 1) (i := 1) rfl a_var)) (g_tup (g_cons (g_name (by decide)) (g_cons (g_name (by decide)) g_nil tot_name) tot_name)) a_yes a_var))))))) (fun ds P a => by obtain ⟨_, _, _, _, _, _, rfl, _⟩ := a; exact Nat.le_of_ble_eq_true rfl) ?_⟩
  rintro ds P ⟨p, q, bs, us, eqs, xs, rfl, q0, p0, p1, so, hp⟩
  refine sQ_sq ⟨rfl, ?_⟩
  show two _ _ _
  refine twoN (fun hl => ?_) (fun hl => ?_)
  · refine hp false ⟨fun e => (by cases e), fun e => absurd ?_ hl⟩
    rw [List.length_map, List.length_map, e.1]
  · rw [List.length_map, List.length_map] at hl
    refine ⟨k, p, q, bs, us, eqs, xs, rfl, q0, p0, p1, so, by omega, ?_⟩
    refine ⟨rfl, by rw [List.length_map]; have := so.le; omega, ?_⟩
    refine lcA_mapL (g := fun e => Dat.int e.1) (fun x hx Q hQ => hQ) ?_
    rw [show eqs.map (fun e => Dat.int e.1) = (eqs.map (·.1)).map Dat.int by rw [List.map_map]; rfl]
    refine ⟨(okE_lst (okE_ints _ 0)).up (Nat.le_of_ble_eq_true rfl), (okE_lst (okE_ints _ 0)).up (Nat.le_of_ble_eq_true rfl), fun b hb => hp b ?_⟩
    rw [hb, Dat.lst.injEq]
    exact ⟨fun e => ⟨by omega, ints_inj e⟩, fun e => by rw [e.2]⟩
def aspStEq : ASp := fun ds P => ∃ (us vs : List Str) (eqs fqs : List Eqn), ds = [stO us eqs, stO vs fqs] ∧ StOk us eqs ∧ StOk vs fqs ∧ ∀ b : Bool, (b = true ↔ us = vs ∧ eqs = fqs) → P (.bl b)
theorem ok_st_eq {f : Addr} {fd : FuncData} (F : Fun K "__eq__" "Statement.__eq__" s_Statement___eq__ f fd) (T1 : ST K (ca 1)) (I_Statement : IsiC K (ca 1)) (G_Statement : mg "Statement" = some (.ref (ca 1))) (B : Blt mg) : FnOk P w K mg base CX0 1 f fd ["self", "other"] (toSp K ca aspStEq) := by
  refine F.ok sc_Statement___eq__ (fun vs H Q E h => sp_len (n := 2) (fun ds P a => by obtain ⟨_, _, _, _, rfl, _⟩ := a; rfl) h) (fun cdv A outer s H vs Q E hr h => ⟨_, (pss_one (ps_ret (pe_and (pe_callB (kisi (K := K) rfl) (by rfl) B.isinstance bt_isinstance (pa_cons (pv 1) (pa_cons (pe_glob (v := .ref _) rfl G_Statement rfl) pa_nil))) (pe_and (pe_cmpR (keqd (K := K) rfl hr.units) (kfld (K := K) rfl (pv 0)) (kfld (K := K) rfl (pv 1)) (nomark _)) (pe_one (pe_cmpR (keqd (K := K) rfl hr.units) (kfld (K := K) rfl (pv 0)) (kfld (K := K) rfl (pv 1)) (nomark _))))))),
    fn_run h (fun po => (s_ret fun _ => (a_andV (a_isO I_Statement a_var) (a_andV (a_op pst_pk rok_eqD (a_pk (a_fld T1.cl T1.n_unknowns (c := 1) (i := 0) rfl a_var)) (a_pk (a_fld T1.cl T1.n_unknowns (c := 1) (i := 0) rfl a_var))) (a_op pst_pk rok_eqD (a_pk (a_fld T1.cl T1.n_equations (c := 1) (i := 1) rfl a_var)) (a_pk (a_fld T1.cl T1.n_equations (c := 1) (i := 1) rfl a_var))))))) (fun ds P a => by obtain ⟨_, _, _, _, rfl, _⟩ := a; exact Nat.le_of_ble_eq_true rfl) ?_⟩)
  rintro ds P ⟨us, vs, eqs, fqs, rfl, h1, h2, hp⟩
  unfold stO
  walk_at "dd"
  have l1 := h1.lu
  have l2 := h2.lu
  refine ⟨(okE_tup (okE_maps fun u hu => okE_str (h1.so u hu) 0)).up (Nat.le_of_ble_eq_true rfl), (okE_tup (okE_maps fun u hu => okE_str (h2.so u hu) 0)).up (Nat.le_of_ble_eq_true rfl), fun b hb => ?_⟩
  refine twoI (fun e => ?_) (fun e => ?_)
  · have e1 := hb.mp e
    rw [Dat.tup.injEq] at e1
    have e2 := strs_inj e1
    subst e2
    refine ⟨(okE_tup (okE_maps (okE_eqD h1))).up (Nat.le_of_ble_eq_true rfl), (okE_tup (okE_maps (okE_eqD h2))).up (Nat.le_of_ble_eq_true rfl), fun c hc => hp c ?_⟩
    rw [hc, Dat.tup.injEq]
    exact ⟨fun z => ⟨rfl, map_inj (fun _ _ => eqD_inj) z⟩, fun z => by rw [z.2]⟩
  · refine hp false ⟨fun z => (by cases z), fun z => ?_⟩
    rw [hb.mpr (by rw [z.1])] at e
    cases e
end

/-! ### _law_same, over data -/
mutual
/-- data without objects, dicts, the pool -/
def plD : Dat → Bool
  | .non => true
  | .bl _ => true
  | .int _ => true
  | .str _ => true
  | .lst xs => plAll xs
  | .tup xs => plAll xs
  | _ => false
def plAll : List Dat → Bool
  | [] => true
  | x :: xs => plD x && plAll xs
end
theorem plAll_get : ∀ {xs : List Dat} {i : Nat} {x : Dat}, plAll xs = true → xs[i]? = some x → plD x = true
  | [], _, _, _, e => by cases e
  | y :: ys, 0, x, h, e => by
    have h : (plD y && plAll ys) = true := h
    rw [Bool.and_eq_true] at h
    cases e
    exact h.1
  | y :: ys, i + 1, x, h, e => by
    have h : (plD y && plAll ys) = true := h
    rw [Bool.and_eq_true] at h
    exact plAll_get h.2 (i := i) (by simpa using e)
theorem plAll_of : ∀ {xs : List Dat}, (∀ x ∈ xs, plD x = true) → plAll xs = true
  | [], _ => rfl
  | x :: xs, h => by
    show (plD x && plAll xs) = true
    rw [h x List.mem_cons_self, plAll_of fun y hy => h y (List.mem_cons_of_mem _ hy)]
    rfl
/-- what _law_same compares with, of so many levels -/
def okS : Nat → Dat → Prop
  | _, .non => True
  | _, .bl _ => True
  | _, .int _ => True
  | _, .str _ => True
  | n + 1, .lst ds => ds.length ≤ 1000000 ∧ ∀ d ∈ ds, okS n d
  | n + 1, .tup ds => ds.length ≤ 1000000 ∧ ∀ d ∈ ds, okS n d
  | _, _ => False
abbrev s__law_same : Stmt := top 32
theorem sc__law_same : FnScope ["actual", "due", "k"] ["actual", "due"] (defScope s__law_same) := ⟨rfl, rfl, rfl, by decide +kernel, rfl, by decide +kernel, by decide +kernel⟩
section
variable {P : Program} {w : World} {K : PySem.W.Frag} {mg : Str → Option Value} {base : Heap} {ca : Nat → Addr}
def aspSame : Nat → ASp
  | 0 => fun _ _ => False
  | n + 1 => fun ds P => ∃ a d : Dat, ds = [a, d] ∧ plD a = true ∧ okS n d ∧ ∀ b : Bool, (b = true ↔ a = d) → P (.bl b)
theorem ok_law_same {f : Addr} {fd : FuncData} (F : Fun K "_law_same" "_law_same" s__law_same f fd) (B : Blt mg) (mf : mg "_law_same" = some (.ref f)) (bf : Binds K fd ["actual", "due"] []) :
    ∀ n, FnOk P w K mg base CX0 n f fd ["actual", "due"] (toSp K ca (aspSame n))
  | 0 => ⟨fun _ _ _ _ ⟨_, _, _, _, _, _, h, _⟩ => h.elim, fun _ _ _ _ _ _ _ _ _ _ _ _ _ ⟨_, _, _, _, _, _, h, _⟩ => h.elim⟩
  | n + 1 => by
    have C__law_same : C8.Cal P w K mg base n "_law_same" (toSp K ca (aspSame n)) [] := ⟨⟨f, fd, _, [], ok_law_same F B mf bf n, mf, F.kp, bf, .nil⟩⟩
    refine F.ok sc__law_same (fun vs H Q E h => sp_len (n := 2) (fun ds P a => by obtain ⟨_, _, rfl, _⟩ := a; rfl) h) (fun cdv A outer s H vs Q E hr h => ⟨_, (pss_cons (ps_if (PW.pt (pw_or (pt_val (pe_callB (kisi (K := K) rfl) (by rfl) B.isinstance bt_isinstance (pa_cons (pv 1) (pa_cons (pe_bltn (v := .ty "tuple") (u := .type "tuple") (by rfl) B.tuple bt_tuple rfl) pa_nil)))) (pw_or1 (pt_val (pe_callB (kisi (K := K) rfl) (by rfl) B.isinstance bt_isinstance (pa_cons (pv 1) (pa_cons (pe_bltn (v := .ty "list") (u := .type "list") (by rfl) B.list bt_list rfl) pa_nil))))))) (pss_cons (ps_if (PW.pt (pw_or (pt_cmpR op_ne (pe_callB (kisi (K := K) rfl) (by rfl) B.isinstance bt_isinstance (pa_cons (pv 1) (pa_cons (pe_bltn (v := .ty "tuple") (u := .type "tuple") (by rfl) B.tuple bt_tuple rfl) pa_nil))) (pe_callB (kisi (K := K) rfl) (by rfl) B.isinstance bt_isinstance (pa_cons (pv 0) (pa_cons (pe_bltn (v := .ty "tuple") (u := .type "tuple") (by rfl) B.tuple bt_tuple rfl) pa_nil))) (nomark _)) (pw_or1 (pt_cmpR op_ne (pe_callB (kisi (K := K) rfl) (by rfl) B.isinstance bt_isinstance (pa_cons (pv 1) (pa_cons (pe_bltn (v := .ty "list") (u := .type "list") (by rfl) B.list bt_list rfl) pa_nil))) (pe_callB (kisi (K := K) rfl) (by rfl) B.isinstance bt_isinstance (pa_cons (pv 0) (pa_cons (pe_bltn (v := .ty "list") (u := .type "list") (by rfl) B.list bt_list rfl) pa_nil))) (nomark _))))) (pss_one (ps_ret pe_bl)) pss_nil)
      (pss_cons (ps_if (pt_cmpR op_ne (pe_callB (klen (K := K) rfl) (by rfl) B.len bt_len (pa_cons (pv 0) pa_nil)) (pe_callB (klen (K := K) rfl) (by rfl) B.len bt_len (pa_cons (pv 1) pa_nil)) (nomark _)) (pss_one (ps_ret pe_bl)) pss_nil)
      (pss_cons (ps_for PassesOwn.never rfl (pi_range1 rfl B.range (pa_cons (pe_callB (klen (K := K) rfl) (by rfl) B.len bt_len (pa_cons (pv 1) pa_nil)) pa_nil)) (pg_name (i := 2) sc__law_same.nd rfl (.inl rfl))
      (pss_one (ps_if (pt_not (pt_val (C8.pe_c C__law_same hr (by omega) rfl (pa_cons (pe_ix (kixs (K := K) rfl) (pv 0) (pv 2) (fun _ _ => rfl)) (pa_cons (pe_ix (kixs (K := K) rfl) (pv 1) (pv 2) (fun _ _ => rfl)) pa_nil))))) (pss_one (ps_ret pe_bl)) pss_nil)))
      (pss_one (ps_ret pe_bl))))) pss_nil)
      (pss_cons (ps_if (PW.pt (pw_or (pt_cmpR op_isN (pv 1) pe_non (nomark _)) (pw_or1 (pt_val (pe_callB (kisi (K := K) rfl) (by rfl) B.isinstance bt_isinstance (pa_cons (pv 1) (pa_cons (pe_bltn (v := .ty "bool") (u := .type "bool") (by rfl) B.bool bt_bool rfl) pa_nil))))))) (pss_one (ps_ret (pe_and (pe_cmpR op_eq (pe_cmpR op_isN (pv 0) pe_non (nomark _)) (pe_cmpR op_isN (pv 1) pe_non (nomark _)) (nomark _)) (pe_and (pe_or (pe_cmpR op_isN (pv 1) pe_non (nomark _)) (pe_one (pe_callB (kisi (K := K) rfl) (by rfl) B.isinstance bt_isinstance (pa_cons (pv 0) (pa_cons (pe_bltn (v := .ty "bool") (u := .type "bool") (by rfl) B.bool bt_bool rfl) pa_nil))))) (pe_one (pe_cmpR op_eq (pv 0) (pv 1) (nomark _))))))) pss_nil)
      (pss_cons (ps_if (pt_val (pe_callB (kisi (K := K) rfl) (by rfl) B.isinstance bt_isinstance (pa_cons (pv 1) (pa_cons (pe_bltn (v := .ty "int") (u := .type "int") (by rfl) B.int bt_int rfl) pa_nil)))) (pss_one (ps_ret (pe_and (pe_callB (kisi (K := K) rfl) (by rfl) B.isinstance bt_isinstance (pa_cons (pv 0) (pa_cons (pe_bltn (v := .ty "int") (u := .type "int") (by rfl) B.int bt_int rfl) pa_nil))) (pe_and (pe_not (pe_callB (kisi (K := K) rfl) (by rfl) B.isinstance bt_isinstance (pa_cons (pv 0) (pa_cons (pe_bltn (v := .ty "bool") (u := .type "bool") (by rfl) B.bool bt_bool rfl) pa_nil)))) (pe_one (pe_cmpR op_eq (pv 0) (pv 1) (nomark _))))))) pss_nil)
      (pss_one (ps_ret (pe_and (pe_callB (kisi (K := K) rfl) (by rfl) B.isinstance bt_isinstance (pa_cons (pv 0) (pa_cons (pe_bltn (v := .ty "str") (u := .type "str") (by rfl) B.str bt_str rfl) pa_nil))) (pe_one (pe_cmpR op_eq (pv 0) (pv 1) (nomark _))))))))),
    fn_run h (fun po => (s_seq (s_if (fun _ => (a_or (a_tb (a_isT (by decide) a_var)) (a_tb (a_isT (by decide) a_var)))) (s_seq (s_if (fun _ => (a_or (a_test (a_op pst_rv rok_ne (a_isT (by decide) a_var) (a_isT (by decide) a_var))) (a_test (a_op pst_rv rok_ne (a_isT (by decide) a_var) (a_isT (by decide) a_var))))) (s_ret fun _ => a_bl) s_next)
      (s_seq (s_if (fun _ => (a_test (a_op pst_rv rok_ne (a_b1 u_len (a_pk a_var)) (a_b1 u_len (a_pk a_var))))) (s_ret fun _ => a_bl) s_next)
      (s_seq (s_for (vs := [2]) (fun _ => (i_ran1 (a_cons (a_b1 u_len (a_pk a_var)) a_nil))) (fun _ => (g_name (by decide)))
      (s_if (fun _ => (a_not (a_tb (a_call (a_cons (a_op pst_pk rok_ix (a_pk a_var) a_var) (a_cons (a_op pst_pk rok_ix (a_pk a_var) a_var) a_nil)))))) (s_ret fun _ => a_bl) s_next))
      (s_ret fun _ => a_bl)))) s_next)
      (s_seq (s_if (fun _ => (a_or (a_test (a_op pst_rv rok_isN a_var a_non)) (a_tb (a_isT (by decide) a_var)))) (s_ret fun _ => (a_andV (a_op pst_rv rok_eq (a_op pst_rv rok_isN a_var a_non) (a_op pst_rv rok_isN a_var a_non)) (a_andV (a_orV (a_op pst_rv rok_isN a_var a_non) (a_isT (by decide) a_var)) (a_op pst_rv rok_eq a_var a_var)))) s_next)
      (s_seq (s_if (fun _ => (a_tb (a_isT (by decide) a_var))) (s_ret fun _ => (a_andV (a_isT (by decide) a_var) (a_andV (a_notV (a_isT (by decide) a_var)) (a_op pst_rv rok_eq a_var a_var)))) s_next)
      (s_ret fun _ => (a_andV (a_isT (by decide) a_var) (a_op pst_rv rok_eq a_var a_var))))))) (fun ds P a => by obtain ⟨_, _, rfl, _⟩ := a; exact Nat.le_of_ble_eq_true rfl) ?_⟩)
    rintro ds P ⟨a, d, rfl, ha, hd, hp⟩
    have no : ∀ {x : Bool}, x = false → ¬ a = d → P (.bl x) := fun {x} e h => hp x ⟨fun z => (by rw [e] at z; cases z), fun z => absurd z h⟩
    cases d with
    | non => cases a <;> first | (cases ha; done) | (walk_at "dd"; exact hp _ (by simp))
    | bl b => cases a <;> first | (cases ha; done) | (walk_at "dd"; exact hp _ (by simp))
    | int b => cases a <;> first | (cases ha; done) | (walk_at "dd"; exact hp _ (by simp))
    | str b => cases a <;> first | (cases ha; done) | (walk_at "dd"; exact hp _ (by simp))
    | lst ys =>
      obtain ⟨n, rfl⟩ : ∃ m, n = m + 1 := by
        cases n with
        | zero => exact hd.elim
        | succ n => exact ⟨n, rfl⟩
      obtain ⟨hl, hd⟩ := hd
      cases a with
      | lst xs =>
        walk_at "dd"
        refine twoN (fun e => ?_) (fun e => ?_)
        · refine no rfl fun z => e ?_
          rw [Dat.lst.injEq] at z
          rw [z]
        · have el : xs.length = ys.length := by omega
          refine ⟨by omega, by omega, ?_⟩
          refine forA_ran (fun i env => ∃ y, env = [.d (.lst xs), .d (.lst ys), y] ∧ ∀ j < i, xs[j]? = ys[j]?) ⟨_, rfl, fun j hj => absurd hj (Nat.not_lt_zero _)⟩ ?_ ?_
          · rintro i env hi ⟨y, rfl, hj⟩ N hN
            have hie : i < ys.length := by omega
            have hid : i < xs.length := by omega
            walk_at "dd"
            rw [atD (Int.zero_add _) (List.getElem?_eq_getElem hid), atD (Int.zero_add _) (List.getElem?_eq_getElem hie)]
            refine ⟨_, _, rfl, plAll_get (show plAll xs = true from ha) (List.getElem?_eq_getElem hid), hd _ (List.getElem_mem hie), fun b hb => ?_⟩
            walk_at "dd"
            cases b with
            | true =>
              refine hN _ ⟨_, rfl, fun j h => ?_⟩
              by_cases hji : j < i
              · exact hj j hji
              · have : j = i := by omega
                subst this
                rw [List.getElem?_eq_getElem hid, List.getElem?_eq_getElem hie, hb.mp rfl]
            | false =>
              refine no rfl fun z => ?_
              rw [Dat.lst.injEq] at z
              subst z
              exact absurd (hb.mpr rfl) (by decide)
          · rintro env ⟨y, rfl, hj⟩
            walk_at "dd"
            refine hp _ ⟨fun _ => ?_, fun _ => rfl⟩
            congr 1
            refine List.ext_getElem? fun j => ?_
            by_cases h : j < ys.length
            · exact hj j h
            · rw [List.getElem?_eq_none (by omega), List.getElem?_eq_none (by omega)]
      | non => walk_at "dd"; exact no rfl (by simp)
      | bl b => walk_at "dd"; exact no rfl (by simp)
      | int b => walk_at "dd"; exact no rfl (by simp)
      | str b => walk_at "dd"; exact no rfl (by simp)
      | tup b => walk_at "dd"; exact no rfl (by simp)
      | _ => cases ha
    | tup ys =>
      obtain ⟨n, rfl⟩ : ∃ m, n = m + 1 := by
        cases n with
        | zero => exact hd.elim
        | succ n => exact ⟨n, rfl⟩
      obtain ⟨hl, hd⟩ := hd
      cases a with
      | tup xs =>
        walk_at "dd"
        refine twoN (fun e => ?_) (fun e => ?_)
        · refine no rfl fun z => e ?_
          rw [Dat.tup.injEq] at z
          rw [z]
        · have el : xs.length = ys.length := by omega
          refine ⟨by omega, by omega, ?_⟩
          refine forA_ran (fun i env => ∃ y, env = [.d (.tup xs), .d (.tup ys), y] ∧ ∀ j < i, xs[j]? = ys[j]?) ⟨_, rfl, fun j hj => absurd hj (Nat.not_lt_zero _)⟩ ?_ ?_
          · rintro i env hi ⟨y, rfl, hj⟩ N hN
            have hie : i < ys.length := by omega
            have hid : i < xs.length := by omega
            walk_at "dd"
            rw [atD (Int.zero_add _) (List.getElem?_eq_getElem hid), atD (Int.zero_add _) (List.getElem?_eq_getElem hie)]
            refine ⟨_, _, rfl, plAll_get (show plAll xs = true from ha) (List.getElem?_eq_getElem hid), hd _ (List.getElem_mem hie), fun b hb => ?_⟩
            walk_at "dd"
            cases b with
            | true =>
              refine hN _ ⟨_, rfl, fun j h => ?_⟩
              by_cases hji : j < i
              · exact hj j hji
              · have : j = i := by omega
                subst this
                rw [List.getElem?_eq_getElem hid, List.getElem?_eq_getElem hie, hb.mp rfl]
            | false =>
              refine no rfl fun z => ?_
              rw [Dat.tup.injEq] at z
              subst z
              exact absurd (hb.mpr rfl) (by decide)
          · rintro env ⟨y, rfl, hj⟩
            walk_at "dd"
            refine hp _ ⟨fun _ => ?_, fun _ => rfl⟩
            congr 1
            refine List.ext_getElem? fun j => ?_
            by_cases h : j < ys.length
            · exact hj j h
            · rw [List.getElem?_eq_none (by omega), List.getElem?_eq_none (by omega)]
      | non => walk_at "dd"; exact no rfl (by simp)
      | bl b => walk_at "dd"; exact no rfl (by simp)
      | int b => walk_at "dd"; exact no rfl (by simp)
      | str b => walk_at "dd"; exact no rfl (by simp)
      | lst b => walk_at "dd"; exact no rfl (by simp)
      | _ => cases ha
    | pool => cases n <;> exact hd.elim
    | obj c xs => cases n <;> exact hd.elim
    | dK xs => cases n <;> exact hd.elim
    | cell xs => cases n <;> exact hd.elim
end

abbrev s__law_power : Stmt := top 33
theorem sc__law_power : FnScope ["base", "exponent", "modulus", "result", "k"] ["base", "exponent", "modulus"] (defScope s__law_power) := ⟨rfl, rfl, rfl, by decide +kernel, rfl, by decide +kernel, by decide +kernel⟩
section
variable {P : Program} {w : World} {K : PySem.W.Frag} {mg : Str → Option Value} {base : Heap}
def spLPower : Sp := fun vs H Q _ => ∃ a e m : Int, vs = [.int a, .int e, .int m] ∧ 1 < m ∧ m < 2147483648 ∧ e < 4611686018427387904 ∧ 0 ≤ e ∧ Q (.int (a ^ e.toNat % m)) H
theorem ok_law_power {f : Addr} {fd : FuncData} (F : Fun K "_law_power" "_law_power" s__law_power f fd) (B : Blt mg) : FnOk P w K mg base CX0 1 f fd ["base", "exponent", "modulus"] spLPower := by
  refine F.ok sc__law_power (fun vs H Q E h => ?_) (fun cdv A outer s H vs Q E hr h => ?_)
  · obtain ⟨a, e, m, rfl, _⟩ := h
    rfl
  · obtain ⟨a, e, m, rfl, m0, m1, e1, e0, z⟩ := h
    refine ⟨_, (pss_cons (ps_set (i := 3) sc__law_power.nd rfl (.inl rfl) pe_int)
      (pss_cons (ps_for PassesOwn.never rfl (pi_range1 rfl B.range (pa_cons (pv 1) pa_nil)) (pg_name (i := 4) sc__law_power.nd rfl (.inl rfl))
      (pss_one (ps_set (i := 3) sc__law_power.nd rfl (.inl rfl) (pe_op op_mod (pe_callTy call_int1 (by rfl) B.int bt_int (pa_cons (pe_op op_mul (pv 3) (pv 0)) pa_nil)) (pv 2)))))
      (pss_one (ps_ret (pv 3))))), ?_⟩
    walk_at "go"
    refine for_range (fun i σ' H' => At (∃ y, σ' = [some (.int a), some (.int e), some (.int m), some (.int (a ^ i % m)), y] ∧ H' = H)) (.of ⟨none, ?_, rfl⟩) ?_ ?_
    · rw [Int.pow_zero, Int.emod_eq_of_lt (by omega) m0]
      rfl
    · intro i σ' H' hi hW
      obtain ⟨y, rfl, rfl⟩ := hW.out
      have bd := emod_bd (a := a ^ i) (m := m) (by omega)
      walk_at "go"
      refine .of ⟨some (V.int (0 + (i : Int))), ?_, rfl⟩
      rw [Int.pow_succ, ← mul_emod_l]
      rfl
    · intro σ' H' hW
      obtain ⟨y, rfl, rfl⟩ := hW.out
      walk_at "go"
      exact z
end

def aspLPower : ASp := fun ds P => ∃ a e m : Int, ds = [.int a, .int e, .int m] ∧ 1 < m ∧ m < 2147483648 ∧ e < 4611686018427387904 ∧ 0 ≤ e ∧ P (.int (a ^ e.toNat % m))
theorem sp_lpower {K : PySem.W.Frag} {ca : Nat → Addr} : ∀ vs H Q E, toSp K ca aspLPower vs H Q E → spLPower vs H Q E := fun vs H Q E ⟨po, F, ds, P, ok, r, ⟨a, e, m, ed, h1, h2, h3, h4, hp⟩, k⟩ => by
  subst ed
  have ev : vs = [V.int a, .int e, .int m] := RvAll.ints (ns := [a, e, m]) r
  subst ev
  exact ⟨a, e, m, rfl, h1, h2, h3, h4, k _ F H _ hp (.refl ok) (.int _)⟩

/-! ### the law's own sums, over data -/
abbrev s__law_raised : Stmt := top 34
theorem sc__law_raised : FnScope ["group", "element", "exponent"] ["group", "element", "exponent"] (defScope s__law_raised) := ⟨rfl, rfl, rfl, by decide +kernel, rfl, by decide +kernel, by decide +kernel⟩
abbrev s__law_product : Stmt := top 35
theorem sc__law_product : FnScope ["group", "pairs", "result", "element", "exponent"] ["group", "pairs"] (defScope s__law_product) := ⟨rfl, rfl, rfl, by decide +kernel, rfl, by decide +kernel, by decide +kernel⟩
abbrev s__law_numbers : Stmt := top 37
theorem sc__law_numbers : FnScope ["pool", "group", "count", "k"] ["pool", "group", "count"] (defScope s__law_numbers) := ⟨rfl, rfl, rfl, by decide +kernel, rfl, by decide +kernel, by decide +kernel⟩
section
variable {P : Program} {w : World} {K : PySem.W.Frag} {mg : Str → Option Value} {base : Heap} {ca : Nat → Addr}
def aspLRaised : ASp := fun ds P => ∃ (p q e k : Int) (bs : List Int), ds = [lgD p q bs, .int e, .int k] ∧ 0 < q ∧ q < 2147483648 ∧ 1 < p ∧ p < 2147483648 ∧ P (.int (rz p q e k))
theorem ok_law_raised {f : Addr} {fd : FuncData} (F : Fun K "_law_raised" "_law_raised" s__law_raised f fd) (B : Blt mg) (C__law_power : C8.Cal P w K mg base 1 "_law_power" (toSp K ca aspLPower) []) : FnOk P w K mg base CX0 2 f fd ["group", "element", "exponent"] (toSp K ca aspLRaised) := by
  refine F.ok sc__law_raised (fun vs H Q E h => sp_len (n := 3) (fun ds P a => by obtain ⟨_, _, _, _, _, rfl, _⟩ := a; rfl) h) (fun cdv A outer s H vs Q E hr h => ⟨_, (pss_one (ps_ret (C8.pe_c C__law_power hr (by omega) rfl (pa_cons (pv 1) (pa_cons (pe_op op_mod (pe_callTy call_int1 (by rfl) B.int bt_int (pa_cons (pv 2) pa_nil)) (pe_ix (kixs (K := K) rfl) (pv 0) pe_int (fun _ _ => rfl))) (pa_cons (pe_ix (kixs (K := K) rfl) (pv 0) pe_int (fun _ _ => rfl)) pa_nil)))))),
    fn_run h (fun po => (s_ret fun _ => (a_call (a_cons a_var (a_cons (a_op pst_rv rok_I (a_b1 u_int a_var) (a_op pst_pk rok_ix (a_pk a_var) a_int)) (a_cons (a_op pst_pk rok_ix (a_pk a_var) a_int) a_nil)))))) (fun ds P a => by obtain ⟨_, _, _, _, _, rfl, _⟩ := a; exact Nat.le_of_ble_eq_true rfl) ?_⟩)
  rintro ds P ⟨p, q, e, k, bs, rfl, q0, q1, p0, p1, hp⟩
  have bd := emod_bd (a := k) q0
  refine ⟨propOnly (by walk_at "sd"), ?_⟩
  exact ⟨_, _, _, rfl, by omega, by omega, by omega, by omega, hp⟩
def aspLProduct : ASp := fun ds P => ∃ (p q : Int) (bs : List Int) (prs : List (Int × Int)), ds = [lgD p q bs, .lst (prs.map prT)] ∧ 0 < q ∧ q < 2147483648 ∧ 1 < p ∧ p < 2147483648 ∧ P (.int (prZ p q prs))
theorem ok_law_product {f : Addr} {fd : FuncData} (F : Fun K "_law_product" "_law_product" s__law_product f fd) (B : Blt mg) (C__law_raised : C8.Cal P w K mg base 2 "_law_raised" (toSp K ca aspLRaised) []) : FnOk P w K mg base CX0 3 f fd ["group", "pairs"] (toSp K ca aspLProduct) := by
  refine F.ok sc__law_product (fun vs H Q E h => sp_len (n := 2) (fun ds P a => by obtain ⟨_, _, _, _, rfl, _⟩ := a; rfl) h) (fun cdv A outer s H vs Q E hr h => ⟨_, (pss_cons (ps_set (i := 2) sc__law_product.nd rfl (.inl rfl) pe_int)
      (pss_cons (ps_for PassesOwn.never rfl (kpil (K := K) rfl (pv 1)) (kgtup (K := K) (n := 2) rfl rfl (pgs_cons (pg_name (i := 3) sc__law_product.nd rfl (.inl rfl)) (pgs_cons (pg_name (i := 4) sc__law_product.nd rfl (.inl rfl)) pgs_nil)))
      (pss_one (ps_set (i := 2) sc__law_product.nd rfl (.inl rfl) (pe_op op_mod (pe_callTy call_int1 (by rfl) B.int bt_int (pa_cons (pe_op op_mul (pv 2) (C8.pe_c C__law_raised hr (by omega) rfl (pa_cons (pv 0) (pa_cons (pv 3) (pa_cons (pv 4) pa_nil))))) pa_nil)) (pe_ix (kixs (K := K) rfl) (pv 0) pe_int (fun _ _ => rfl))))))
      (pss_one (ps_ret (pv 2))))),
    fn_run h (fun po => (s_seq (s_set fun _ => a_int)
      (s_seq (s_for (vs := [3, 4]) (fun _ => (i_list a_var)) (fun _ => (g_tup (g_cons (g_name (by decide)) (g_cons (g_name (by decide)) g_nil tot_name) tot_name)))
      (s_set fun _ => (a_op pst_rv rok_I (a_b1 u_int (a_op pst_rv rok_I a_var (a_call (a_cons a_var (a_cons a_var (a_cons a_var a_nil)))))) (a_op pst_pk rok_ix (a_pk a_var) a_int))))
      (s_ret fun _ => a_var)))) (fun ds P a => by obtain ⟨_, _, _, _, rfl, _⟩ := a; exact Nat.le_of_ble_eq_true rfl) ?_⟩)
  rintro ds P ⟨p, q, bs, prs, rfl, q0, q1, p0, p1, hp⟩
  refine forA_map (fun i env => ∃ y3 y4, env = [.d (lgD p q bs), .d (.lst (prs.map prT)), .d (.int (prF p q 1 (prs.take i))), y3, y4]) ⟨_, _, rfl⟩ ?_ ?_
  · rintro i ⟨e, k⟩ env hi ⟨y3, y4, rfl⟩ N hN
    have bd := prF_bd (q := q) p0 (prs.take i) 1 (by omega) p0
    refine ⟨p, q, _, _, bs, rfl, q0, q1, p0, p1, ?_⟩
    refine ⟨propOnly (by walk_at "sd"), propOnly (by walk_at "sd"), hN _ ⟨.d (.int e), .d (.int k), ?_⟩⟩
    rw [List.take_add_one, hi]
    show _ = [_, _, Sl.d (.int (prF p q 1 (prs.take i ++ [(e, k)]))), _, _]
    rw [prF_snoc]
    rfl
  · rintro env ⟨y3, y4, rfl⟩
    show P (.int (prF p q 1 (prs.take prs.length)))
    rw [List.take_length]
    exact hp
def aspLNumbers : ASp := fun ds P => ∃ (p q n : Int) (bs : List Int), ds = [.pool, lgD p q bs, .int n] ∧ 0 < q ∧ q < 1073741824 ∧ 0 ≤ n ∧ n ≤ 1000 ∧ ∀ ns : List Int, (ns.length : Int) = n → (∀ x ∈ ns, 0 ≤ x ∧ x < q) → P (.lst (ns.map .int))
theorem ok_law_numbers {f : Addr} {fd : FuncData} (F : Fun K "_law_numbers" "_law_numbers" s__law_numbers f fd) (B : Blt mg) (C__law_draw : C8.Cal P w K mg base 1 "_law_draw" (toSp K ca aspDraw) []) : FnOk P w K mg base CX0 2 f fd ["pool", "group", "count"] (toSp K ca aspLNumbers) := by
  refine F.ok sc__law_numbers (fun vs H Q E h => sp_len (n := 3) (fun ds P a => by obtain ⟨_, _, _, _, rfl, _⟩ := a; rfl) h) (fun cdv A outer s H vs Q E hr h => ⟨_, (pss_one (ps_ret (pe_lc (own := [("k", 3)]) (g := gName 3) (tt := tYes) rfl sc__law_numbers.nd (pi_range1 rfl B.range (pa_cons (pv 2) pa_nil)) (blkOk_by (N := ["pool", "group", "count", "k"]) (sc := defScope s__law_numbers) (by decide +kernel))
        (fun _ _ _ _ _ => (pg_name (i := 3) sc__law_numbers.nd rfl (.inl rfl))) (fun _ _ _ _ _ => pts_nil)
        (fun _ _ _ _ _ => (C8.pe_c C__law_draw hr (by omega) rfl (pa_cons (pv 0) (pa_cons (pe_ix (kixs (K := K) rfl) (pv 1) pe_int (fun _ _ => rfl)) pa_nil))))))),
    fn_run h (fun po => (s_ret fun _ => (a_fz (a_lc (vs := [3]) (i_ran1 (a_cons a_var a_nil)) (g_name (by decide)) a_yes (a_call (a_cons a_var (a_cons (a_op pst_pk rok_ix (a_pk a_var) a_int) a_nil))))))) (fun ds P a => by obtain ⟨_, _, _, _, rfl, _⟩ := a; exact Nat.le_of_ble_eq_true rfl) ?_⟩)
  rintro ds P ⟨p, q, n, bs, rfl, q0, q1, n0, n1, hp⟩
  refine ⟨by omega, by omega, by rw [List.length_map, List.length_range]; omega, ?_⟩
  refine lcA_relL (fun _ y => ∃ m, y = Dat.int m ∧ 0 ≤ m ∧ m < q) (fun i hi Q hQ => ?_) fun ys pr => ?_
  · exact ⟨q, rfl, q0, q1, fun v v0 v1 => hQ _ ⟨v, rfl, v0, v1⟩⟩
  · obtain ⟨ns, rfl, l, pr⟩ := paired_ints pr
    rw [List.length_range] at l
    refine hp ns (by omega) fun x hx => ?_
    obtain ⟨_, _, h⟩ := paired_mem pr x hx
    exact h
end

def tabN : List (Nat × Nat) := [(23, 11), (47, 23), (59, 29), (103, 17), (83, 41), (137, 17), (29, 7), (607, 101), (11, 5), (53, 13)]
def tabI : List (Int × Int) := [(23, 11), (47, 23), (59, 29), (103, 17), (83, 41), (137, 17), (29, 7), (607, 101), (11, 5), (53, 13)]
def tab : List (Int × Int) := tabN.map fun x => ((x.1 : Int), (x.2 : Int))
theorem tab_eq : tab = tabI := rfl
def rootN (p q : Nat) : Nat := (List.range 38).foldl (fun r i => if r = 1 then (2 + i) ^ ((p - 1) / q) % p else r) 1
set_option maxRecDepth 100000 in
theorem tab_ok : ∀ x ∈ tabN, 3 ≤ x.1 ∧ x.1 ≤ 1000000 ∧ 3 ≤ x.2 ∧ x.2 ≤ 1100 ∧ (x.1 - 1) % x.2 = 0 ∧ (∀ d < 1001, 2 ≤ d → d * d ≤ x.1 → x.1 % d ≠ 0) ∧ (∀ d < 34, 2 ≤ d → d * d ≤ x.2 → x.2 % d ≠ 0) ∧
    1 < rootN x.1 x.2 ∧ rootN x.1 x.2 < x.1 ∧ rootN x.1 x.2 ^ x.2 % x.1 = 1 ∧ ∀ e < x.2, 1 ≤ e → rootN x.1 x.2 ^ e % x.1 ≠ 1 := by decide +kernel
/-- what the table's rows are -/
structure Row (p q R : Int) : Prop where
  p3 : 3 ≤ p
  pm : p ≤ 1000000
  q3 : 3 ≤ q
  qm : q ≤ 1100
  dv : (p - 1) % q = 0
  pp : Pr p
  qp : Pr q
  r1 : 1 < R
  rp : R < p
  rq : R ^ q.toNat % p = 1
  ro : ∀ e : Nat, 1 ≤ e → (e : Int) < q → R ^ e % p ≠ 1
theorem pr_of {n B : Nat} (h2 : 2 ≤ n) (hB : n < B * B) (h : ∀ d < B, 2 ≤ d → d * d ≤ n → n % d ≠ 0) : Pr (n : Int) := by
  refine ⟨by omega, fun d d2 dd e => ?_⟩
  obtain ⟨k, rfl⟩ : ∃ k : Nat, d = k := ⟨d.toNat, by omega⟩
  have kk : k * k ≤ n := by
    have : ((k * k : Nat) : Int) ≤ (n : Int) := by
      rw [Int.natCast_mul]
      exact dd
    omega
  have kB : k < B := by
    refine Nat.lt_of_not_le fun z => ?_
    have := Nat.mul_le_mul z z
    omega
  refine h k kB (by omega) kk ?_
  have : ((n % k : Nat) : Int) = 0 := by
    rw [Int.natCast_emod]
    exact e
  omega
theorem row_of {p q : Int} (h : (p, q) ∈ tab) : Row p q (rootN p.toNat q.toNat) := by
  unfold tab at h
  obtain ⟨⟨a, b⟩, hm, e⟩ := List.mem_map.mp h
  obtain ⟨rfl, rfl⟩ := Prod.mk.inj e
  obtain ⟨h1, h2, h3, h4, h5, h6, h7, h8, h9, h10, h11⟩ := tab_ok _ hm
  simp only at h1 h2 h3 h4 h5 h6 h7 h8 h9 h10 h11
  rw [Int.toNat_natCast, Int.toNat_natCast]
  have cast : ∀ e : Nat, ((rootN a b : Nat) : Int) ^ e % (a : Int) = ((rootN a b ^ e % a : Nat) : Int) := fun e => by
    rw [Int.natCast_emod, Int.natCast_pow]
  generalize rootN a b = R at h8 h9 h10 h11 cast
  refine ⟨by omega, by omega, by omega, by omega, ?_, pr_of (by omega) (B := 1001) (by omega) h6, pr_of (by omega) (B := 34) (by omega) h7, by omega, by omega, ?_, fun e e1 e2 => ?_⟩
  · rw [show (a : Int) - 1 = ((a - 1 : Nat) : Int) by omega, ← Int.natCast_emod, h5]
    rfl
  · rw [Int.toNat_natCast, cast, h10]
    rfl
  · rw [cast]
    have := h11 e (by omega) e1
    omega
/-- the powers of the root are different -/
theorem Row.inj {p q R : Int} (r : Row p q R) {i j : Nat} (hij : i < j) (hj : (j : Int) < q) : R ^ i % p ≠ R ^ j % p := by
  intro e
  have qn : ∃ n : Nat, q = n := ⟨q.toNat, by have := r.q3; omega⟩
  obtain ⟨n, rfl⟩ := qn
  have e2 : R ^ i * R ^ (n - i) % p = R ^ j * R ^ (n - i) % p := by rw [← mul_emod_l, e, mul_emod_l]
  rw [← Int.pow_add, ← Int.pow_add, show i + (n - i) = n by omega, show j + (n - i) = n + (j - i) by omega, Int.pow_add, ← mul_emod_l] at e2
  have rq := r.rq
  rw [Int.toNat_natCast] at rq
  rw [rq, Int.one_mul] at e2
  exact r.ro (j - i) (by omega) (by omega) e2.symm
theorem root_el {p q R : Int} (r : Row p q R) {e : Nat} (h1 : 1 ≤ e) (h2 : (e : Int) < q) : R ^ e % p ≠ 1 ∧ El p q (R ^ e % p) := by
  have hp := r.p3
  have bd := emod_bd (a := R ^ e) (m := p) (by omega)
  have ne := r.ro e h1 h2
  have pq : (R ^ e % p) ^ q.toNat % p = 1 := by
    rw [pow_emod, ← Int.pow_mul, Nat.mul_comm, Int.pow_mul, ← pow_emod, r.rq, Int.one_pow]
    exact Int.emod_eq_of_lt (by omega) (by omega)
  refine ⟨ne, ?_, bd.2, pq⟩
  refine Classical.byContradiction fun hz => ?_
  have z : R ^ e % p = 0 := by omega
  rw [z] at pq
  have q3 := r.q3
  rw [show q.toNat = (q.toNat - 1) + 1 by omega, Int.pow_succ, Int.mul_zero, Int.zero_emod] at pq
  omega
theorem nodup_le {α : Type} [DecidableEq α] : ∀ {l m : List α}, l.Nodup → (∀ x ∈ l, x ∈ m) → l.length ≤ m.length
  | [], _, _, _ => Nat.zero_le _
  | a :: l, m, h, s => by
    obtain ⟨n1, n2⟩ := List.nodup_cons.mp h
    have ha := s a (List.mem_cons_self ..)
    have ih := nodup_le (l := l) (m := m.erase a) n2 fun x hx => (List.mem_erase_of_ne (fun e => by subst e; exact n1 hx)).mpr (s x (List.mem_cons_of_mem _ hx))
    rw [List.length_erase_of_mem ha] at ih
    have := List.length_pos_of_mem ha
    rw [List.length_cons]
    omega
/-- what _law_group hands back -/
structure GG (p q : Int) (bs : List Int) (count least : Int) : Prop where
  tb : (p, q) ∈ tab
  ql : least ≤ q
  qc : count < q
  ln : (bs.length : Int) = count
  nd : bs.Nodup
  po : ∀ b ∈ bs, ∃ e : Nat, 1 ≤ e ∧ (e : Int) < q ∧ b = (rootN p.toNat q.toNat : Int) ^ e % p
def rootF (p q : Int) : Nat → Int
  | 0 => 1
  | i + 1 => if rootF p q i = 1 then (2 + i : Int) ^ ((p - 1) / q).toNat % p else rootF p q i
theorem rootF_nat (a b : Nat) (ha : 1 ≤ a) : ∀ i, rootF a b i = (((List.range i).foldl (fun r i => if r = 1 then (2 + i) ^ ((a - 1) / b) % a else r) 1 : Nat) : Int)
  | 0 => rfl
  | i + 1 => by
    rw [List.range_succ, List.foldl_append]
    show (if rootF a b i = 1 then _ else _) = _
    rw [rootF_nat a b ha i]
    generalize (List.range i).foldl (fun r i => if r = 1 then (2 + i) ^ ((a - 1) / b) % a else r) 1 = r
    show (if (r : Int) = 1 then _ else _) = ((if r = 1 then _ else _ : Nat) : Int)
    have e : (((a : Int) - 1) / (b : Int)).toNat = (a - 1) / b := by
      rw [show (a : Int) - 1 = ((a - 1 : Nat) : Int) by omega, ← Int.natCast_ediv, Int.toNat_natCast]
    by_cases h : r = 1
    · rw [if_pos (by omega), if_pos h, e, Int.natCast_emod, Int.natCast_pow]
      rfl
    · rw [if_neg (by omega), if_neg h]
theorem rootF_end {p q : Int} (h : 1 ≤ p) (hq : 0 ≤ q) : rootF p q 38 = (rootN p.toNat q.toNat : Int) := by
  obtain ⟨a, rfl⟩ : ∃ a : Nat, p = a := ⟨p.toNat, by omega⟩
  obtain ⟨b, rfl⟩ : ∃ b : Nat, q = b := ⟨q.toNat, by omega⟩
  rw [Int.toNat_natCast, Int.toNat_natCast, rootF_nat a b (by omega)]
  rfl
theorem rootF_bd {p q : Int} (h : 1 < p) : ∀ i, 0 ≤ rootF p q i ∧ rootF p q i < p
  | 0 => ⟨Int.zero_le_ofNat 1, h⟩
  | i + 1 => by
    unfold rootF
    split
    · exact emod_bd (by omega)
    · exact rootF_bd h i
def okRow (count least : Int) (x : Int × Int) : Bool := decide (least ≤ x.2) && decide (count < x.2)

/-! ### powers and products modulo p -/
theorem mm (a b p : Int) : a % p * (b % p) % p = a * b % p := (Int.mul_emod a b p).symm
theorem one_mod {p : Int} (hp : 1 < p) : (1 : Int) % p = 1 := Int.emod_eq_of_lt (by omega) hp
theorem pow_mod_q {p q e : Int} (q0 : 0 < q) (hp : 1 < p) (h : e ^ q.toNat % p = 1) {a b : Nat} (hab : (a : Int) % q = (b : Int) % q) : e ^ a % p = e ^ b % p := by
  obtain ⟨n, rfl⟩ : ∃ n : Nat, q = n := ⟨q.toNat, by omega⟩
  rw [Int.toNat_natCast] at h
  have red : ∀ c : Nat, e ^ c % p = e ^ (c % n) % p := fun c => by
    have e2 : e ^ (n * (c / n)) % p = 1 := by
      rw [Int.pow_mul, ← pow_emod, h, Int.one_pow, one_mod hp]
    calc e ^ c % p = e ^ (n * (c / n) + c % n) % p := by rw [Nat.div_add_mod]
      _ = e ^ (n * (c / n)) % p * (e ^ (c % n) % p) % p := by rw [Int.pow_add, mm]
      _ = e ^ (c % n) % p := by rw [e2, Int.one_mul, Int.emod_emod]
  rw [red a, red b]
  have e3 : a % n = b % n := by
    have := hab
    rw [← Int.natCast_emod, ← Int.natCast_emod] at this
    omega
  rw [e3]
theorem rz_add {p q e : Int} (q0 : 0 < q) (hp : 1 < p) (h : e ^ q.toNat % p = 1) (k j : Int) : rz p q e k * rz p q e j % p = rz p q e (k + j) := by
  unfold rz
  rw [mm, ← Int.pow_add]
  have b1 := emod_bd (a := k) q0
  have b2 := emod_bd (a := j) q0
  have b3 := emod_bd (a := k + j) q0
  refine pow_mod_q q0 hp h ?_
  rw [Int.natCast_add, Int.toNat_of_nonneg b1.1, Int.toNat_of_nonneg b2.1, Int.toNat_of_nonneg b3.1, Int.emod_emod, ← Int.add_emod]
theorem rz_root {p q e : Int} (hp : 1 < p) (h : e ^ q.toNat % p = 1) (k : Int) : rz p q e k ^ q.toNat % p = 1 := by
  unfold rz
  rw [pow_emod, ← Int.pow_mul, Nat.mul_comm, Int.pow_mul, ← pow_emod, h, Int.one_pow, one_mod hp]
theorem rz_mod (p q e k : Int) : rz p q e (k % q) = rz p q e k := by
  unfold rz
  rw [Int.emod_emod]
theorem mul_root {p : Int} {n : Nat} {a b : Int} (hp : 1 < p) (ha : a ^ n % p = 1) (hb : b ^ n % p = 1) : (a * b % p) ^ n % p = 1 := by
  rw [pow_emod, Int.mul_pow, Int.mul_emod, ha, hb, Int.one_mul, one_mod hp]
theorem prF_root {p q : Int} (hp : 1 < p) : ∀ (l : List (Int × Int)) (a : Int), a ^ q.toNat % p = 1 → (∀ x ∈ l, x.1 ^ q.toNat % p = 1) → prF p q a l ^ q.toNat % p = 1
  | [], a, h, _ => h
  | (e, k) :: r, a, h, hl => prF_root hp r _ (mul_root hp h (rz_root hp (hl (e, k) List.mem_cons_self) k)) fun x hx => hl x (List.mem_cons_of_mem _ hx)

/-! ### _law_group, over data -/
abbrev s__law_group : Stmt := top 36
theorem sc__law_group : FnScope ["pool", "count", "least", "pairs", "p", "q", "root", "number", "bases", "at", "step", "k", "exponent", "base", "pair"] ["pool", "count", "least"] (defScope s__law_group) := ⟨rfl, rfl, rfl, by decide +kernel, rfl, by decide +kernel, by decide +kernel⟩
section
variable {P : Program} {w : World} {K : PySem.W.Frag} {mg : Str → Option Value} {base : Heap} {ca : Nat → Addr}
def aspLGroup : ASp := fun ds P => ∃ count least : Int, ds = [.pool, .int count, .int least] ∧ 0 ≤ count ∧ count ≤ 1000 ∧ 0 < (tab.filter (okRow count least)).length ∧ ∀ p q bs, GG p q bs count least → P (lgD p q bs)
set_option maxHeartbeats 1000000 in
theorem ok_law_group {f : Addr} {fd : FuncData} (F : Fun K "_law_group" "_law_group" s__law_group f fd) (B : Blt mg) (C__law_draw : C8.Cal P w K mg base 1 "_law_draw" (toSp K ca aspDraw) []) (C__law_power : C8.Cal P w K mg base 1 "_law_power" (toSp K ca aspLPower) []) : FnOk P w K mg base CX0 2 f fd ["pool", "count", "least"] (toSp K ca aspLGroup) := by
  refine F.ok sc__law_group (fun vs H Q E h => sp_len (n := 3) (fun ds P a => by obtain ⟨_, _, rfl, _⟩ := a; rfl) h) (fun cdv A outer s H vs Q E hr h => ⟨_, (pss_cons (ps_set (i := 3) sc__law_group.nd rfl (.inl rfl) (pe_lst (pa_cons (pe_tupF (pa_cons pe_int (pa_cons pe_int pa_nil))) (pa_cons (pe_tupF (pa_cons pe_int (pa_cons pe_int pa_nil))) (pa_cons (pe_tupF (pa_cons pe_int (pa_cons pe_int pa_nil))) (pa_cons (pe_tupF (pa_cons pe_int (pa_cons pe_int pa_nil))) (pa_cons (pe_tupF (pa_cons pe_int (pa_cons pe_int pa_nil))) (pa_cons (pe_tupF (pa_cons pe_int (pa_cons pe_int pa_nil))) (pa_cons (pe_tupF (pa_cons pe_int (pa_cons pe_int pa_nil))) (pa_cons (pe_tupF (pa_cons pe_int (pa_cons pe_int pa_nil))) (pa_cons (pe_tupF (pa_cons pe_int (pa_cons pe_int pa_nil))) (pa_cons (pe_tupF (pa_cons pe_int (pa_cons pe_int pa_nil))) pa_nil))))))))))))
      (pss_cons (ps_setLc (i := 3) (own := [("pair", 14)]) (g := gName 14) rfl sc__law_group.nd rfl rfl (sw_true rfl rfl rfl (by decide +kernel)) (kpil (K := K) rfl (pv 3)) (blkOk_by (N := ["pool", "count", "least", "pairs", "p", "q", "root", "number", "bases", "at", "step", "k", "exponent", "base", "pair"]) (sc := defScope s__law_group) (by decide +kernel))
        (fun _ _ _ _ _ => (pg_name (i := 14) sc__law_group.nd rfl (.inl rfl))) (fun _ _ _ _ _ => pts_one (PW.pt (pw_and (pt_cmpR op_ge (pe_ix (kixs (K := K) rfl) (pv 14) pe_int (fun _ _ => rfl)) (pv 2) (nomark _)) (pw_and1 (pt_cmpR op_gt (pe_ix (kixs (K := K) rfl) (pv 14) pe_int (fun _ _ => rfl)) (pv 1) (nomark _))))))
        (fun _ _ _ _ _ => (pv 14)))
      (pss_cons (ps_asg (pe_ix (kixs (K := K) rfl) (pv 3) (C8.pe_c C__law_draw hr (by omega) rfl (pa_cons (pv 0) (pa_cons (pe_callB (klen (K := K) rfl) (by rfl) B.len bt_len (pa_cons (pv 3) pa_nil)) pa_nil))) (fun _ _ => rfl)) (kgtup (K := K) (n := 2) rfl rfl (pgs_cons (pg_name (i := 4) sc__law_group.nd rfl (.inl rfl)) (pgs_cons (pg_name (i := 5) sc__law_group.nd rfl (.inl rfl)) pgs_nil))))
      (pss_cons (ps_set (i := 6) sc__law_group.nd rfl (.inl rfl) pe_int)
      (pss_cons (ps_for PassesOwn.never rfl (pi_range2 rfl B.range (pa_cons pe_int (pa_cons pe_int pa_nil))) (pg_name (i := 7) sc__law_group.nd rfl (.inl rfl))
      (pss_one (ps_if (pt_cmpR op_eq (pv 6) pe_int (nomark _)) (pss_one (ps_set (i := 6) sc__law_group.nd rfl (.inl rfl) (C8.pe_c C__law_power hr (by omega) rfl (pa_cons (pv 7) (pa_cons (pe_op op_fdiv (pe_op op_sub (pv 4) pe_int) (pv 5)) (pa_cons (pv 4) pa_nil)))))) pss_nil)))
      (pss_cons (ps_set (i := 8) sc__law_group.nd rfl (.inl rfl) (pe_lst pa_nil))
      (pss_cons (ps_set (i := 9) sc__law_group.nd rfl (.inl rfl) (C8.pe_c C__law_draw hr (by omega) rfl (pa_cons (pv 0) (pa_cons (pe_op op_sub (pv 5) pe_int) pa_nil))))
      (pss_cons (ps_set (i := 10) sc__law_group.nd rfl (.inl rfl) (pe_op op_add pe_int (C8.pe_c C__law_draw hr (by omega) rfl (pa_cons (pv 0) (pa_cons (pe_op op_sub (pv 5) pe_int) pa_nil)))))
      (pss_cons (ps_for PassesOwn.never rfl (pi_range1 rfl B.range (pa_cons (pe_op op_sub (pv 5) pe_int) pa_nil)) (pg_name (i := 11) sc__law_group.nd rfl (.inl rfl))
      (pss_one (ps_if (pt_cmpR op_lt (pe_callB (klen (K := K) rfl) (by rfl) B.len bt_len (pa_cons (pv 8) pa_nil)) (pv 1) (nomark _)) (pss_cons (ps_set (i := 12) sc__law_group.nd rfl (.inl rfl) (pe_op op_add pe_int (pe_op op_mod (pe_callTy call_int1 (by rfl) B.int bt_int (pa_cons (pe_op op_add (pv 9) (pe_op op_mul (pv 11) (pv 10))) pa_nil)) (pe_op op_sub (pv 5) pe_int))))
      (pss_cons (ps_set (i := 13) sc__law_group.nd rfl (.inl rfl) (C8.pe_c C__law_power hr (by omega) rfl (pa_cons (pv 6) (pa_cons (pv 12) (pa_cons (pv 4) pa_nil)))))
      (pss_one (ps_if (pt_cmpR (knin (K := K) rfl) (pv 13) (pv 8) rfl) (pss_one (ps_expr (pe_bm PySem.F.plainAttrs_list PySem.F.slot_list_append PySem.F.type_list_append mt_append (pv 8) (pa_cons (pv 13) pa_nil)))) pss_nil)))) pss_nil)))
      (pss_cons (ps_for PassesOwn.never rfl (pi_range2 rfl B.range (pa_cons pe_int (pa_cons (pv 5) pa_nil))) (pg_name (i := 12) sc__law_group.nd rfl (.inl rfl))
      (pss_cons (ps_set (i := 13) sc__law_group.nd rfl (.inl rfl) (C8.pe_c C__law_power hr (by omega) rfl (pa_cons (pv 6) (pa_cons (pv 12) (pa_cons (pv 4) pa_nil)))))
      (pss_one (ps_if (PW.pt (pw_and (pt_cmpR (knin (K := K) rfl) (pv 13) (pv 8) rfl) (pw_and1 (pt_cmpR op_lt (pe_callB (klen (K := K) rfl) (by rfl) B.len bt_len (pa_cons (pv 8) pa_nil)) (pv 1) (nomark _))))) (pss_one (ps_expr (pe_bm PySem.F.plainAttrs_list PySem.F.slot_list_append PySem.F.type_list_append mt_append (pv 8) (pa_cons (pv 13) pa_nil)))) pss_nil))))
      (pss_one (ps_ret (pe_tupF (pa_cons (pv 4) (pa_cons (pv 5) (pa_cons (pv 8) pa_nil)))))))))))))))),
    fn_run h (fun po => (s_seq (s_set fun _ => (a_fz (a_lst (a_cons (a_tup (a_cons a_int (a_cons a_int a_nil))) (a_cons (a_tup (a_cons a_int (a_cons a_int a_nil))) (a_cons (a_tup (a_cons a_int (a_cons a_int a_nil))) (a_cons (a_tup (a_cons a_int (a_cons a_int a_nil))) (a_cons (a_tup (a_cons a_int (a_cons a_int a_nil))) (a_cons (a_tup (a_cons a_int (a_cons a_int a_nil))) (a_cons (a_tup (a_cons a_int (a_cons a_int a_nil))) (a_cons (a_tup (a_cons a_int (a_cons a_int a_nil))) (a_cons (a_tup (a_cons a_int (a_cons a_int a_nil))) (a_cons (a_tup (a_cons a_int (a_cons a_int a_nil))) a_nil)))))))))))))
      (s_seq (s_set fun _ => (a_fz (a_lc (vs := [14]) (i_list a_var) (g_name (by decide)) (a_and (a_test (a_op pst_rv rok_B0 (a_op pst_pk rok_ix (a_pk a_var) a_int) a_var)) (a_test (a_op pst_rv rok_B0 (a_op pst_pk rok_ix (a_pk a_var) a_int) a_var))) a_var)))
      (s_seq (s_asg (vs := [4, 5]) (fun _ => (a_op pst_pk rok_ix (a_pk a_var) (a_call (a_cons a_var (a_cons (a_b1 u_len (a_pk a_var)) a_nil))))) (fun _ => (g_tup (g_cons (g_name (by decide)) (g_cons (g_name (by decide)) g_nil tot_name) tot_name))))
      (s_seq (s_set fun _ => a_int)
      (s_seq (s_for (vs := [7]) (fun _ => (i_ran2 (a_cons a_int (a_cons a_int a_nil)))) (fun _ => (g_name (by decide)))
      (s_if (fun _ => (a_test (a_op pst_rv rok_eq a_var a_int))) (s_set fun _ => (a_call (a_cons a_var (a_cons (a_op pst_rv rok_I (a_op pst_rv rok_I0 a_var a_int) a_var) (a_cons a_var a_nil))))) s_next))
      (s_seq (s_setO fun _ => (a_lst a_nil))
      (s_seq (s_set fun _ => (a_call (a_cons a_var (a_cons (a_op pst_rv rok_I0 a_var a_int) a_nil))))
      (s_seq (s_set fun _ => (a_op pst_rv rok_I0 a_int (a_call (a_cons a_var (a_cons (a_op pst_rv rok_I0 a_var a_int) a_nil)))))
      (s_seq (s_for (vs := [11]) (fun _ => (i_ran1 (a_cons (a_op pst_rv rok_I0 a_var a_int) a_nil))) (fun _ => (g_name (by decide)))
      (s_if (fun _ => (a_test (a_op pst_rv rok_B0 (a_b1 u_len a_peek) a_var))) (s_seq (s_set fun _ => (a_op pst_rv rok_I0 a_int (a_op pst_rv rok_I (a_b1 u_int (a_op pst_rv rok_I0 a_var (a_op pst_rv rok_I a_var a_var))) (a_op pst_rv rok_I0 a_var a_int))))
      (s_seq (s_set fun _ => (a_call (a_cons a_var (a_cons a_var (a_cons a_var a_nil)))))
      (s_if (fun _ => (a_test (a_op pst_rv rok_in a_var a_peek))) (s_app fun _ => a_var) s_next))) s_next))
      (s_seq (s_for (vs := [12]) (fun _ => (i_ran2 (a_cons a_int (a_cons a_var a_nil)))) (fun _ => (g_name (by decide)))
      (s_seq (s_set fun _ => (a_call (a_cons a_var (a_cons a_var (a_cons a_var a_nil)))))
      (s_if (fun _ => (a_and (a_test (a_op pst_rv rok_in a_var a_peek)) (a_test (a_op pst_rv rok_B0 (a_b1 u_len a_peek) a_var)))) (s_app fun _ => a_var) s_next)))
      (s_fz (i := 8) (s_ret fun _ => (a_tup (a_cons a_var (a_cons a_var (a_cons a_var a_nil))))))))))))))))) (fun ds P a => by obtain ⟨_, _, rfl, _⟩ := a; exact Nat.le_of_ble_eq_true rfl) ?_⟩)
  rintro ds P ⟨count, least, rfl, n0, n1, hf, hp⟩
  walk_at "dd"
  refine ⟨by decide, ?_⟩
  refine lcA_filL (f := prT) (xs := tabI) prT (okRow count least) (fun x hx Q q1 q2 => ?_) ?_
  · unfold prT
    walk_at "dd"
    refine twoD (fun c1 => twoD (fun c2 => ?_) (fun c2 => ?_)) (fun c1 => ?_)
    · exact q1 (by unfold okRow; rw [decide_eq_true c1, decide_eq_true c2]; rfl)
    · exact q2 (by unfold okRow; rw [decide_eq_false c2, Bool.and_false])
    · exact q2 (by unfold okRow; rw [decide_eq_false c1, Bool.false_and])
  rw [← tab_eq]
  have hfm : ∀ x ∈ tab.filter (okRow count least), x ∈ tab ∧ least ≤ x.2 ∧ count < x.2 := fun x hx => by
    obtain ⟨h1, h2⟩ := List.mem_filter.mp hx
    unfold okRow at h2
    rw [Bool.and_eq_true, decide_eq_true_eq, decide_eq_true_eq] at h2
    exact ⟨h1, h2⟩
  have hfl : (tab.filter (okRow count least)).length ≤ 10 := Nat.le_trans (List.length_filter_le _ _) (Nat.le_of_ble_eq_true rfl)
  generalize tab.filter (okRow count least) = rows at hf hfm hfl ⊢
  refine ⟨_, rfl, by rw [List.length_map]; omega, by rw [List.length_map]; omega, fun v v0 v1 => ?_⟩
  rw [List.length_map] at v1
  obtain ⟨⟨p, q⟩, hpq⟩ : ∃ x, rows[v.toNat]? = some x := ⟨_, List.getElem?_eq_getElem (show v.toNat < rows.length by omega)⟩
  rw [kIx_l, atD (j := v.toNat) (v := prT (p, q)) (by omega) (by rw [List.getElem?_map, hpq]; rfl)]
  obtain ⟨hmt, hok1, hok2⟩ := hfm _ (List.mem_of_getElem? hpq)
  have row := row_of hmt
  have p3 := row.p3
  have pm := row.pm
  have q3 := row.q3
  have qm := row.qm
  have dv0 : 0 ≤ (p - 1) / q := Int.ediv_nonneg (by omega) (by omega)
  have dv1 : (p - 1) / q ≤ p - 1 := Int.ediv_le_self _ (by omega)
  generalize Dat.lst (rows.map prT) = RW
  unfold prT
  walk_at "dd"
  refine ⟨⟨by omega, by omega, by omega, by omega⟩, ?_⟩
  refine forA_ran (n := 38) (fun i env => ∃ y7, env = [.d .pool, .d (.int count), .d (.int least), .d RW, .d (.int p), .d (.int q), .d (.int (rootF p q i)), y7, .u, .u, .u, .u, .u, .u, .u]) ⟨.u, rfl⟩ ?_ ?_
  · rintro i env hi ⟨y7, rfl⟩ N hN
    walk_at "dd"
    refine twoD (fun c1 => ?_) (fun c1 => ?_)
    · refine ⟨⟨by omega, by omega⟩, ?_⟩
      refine ⟨_, _, _, rfl, by omega, by omega, by omega, dv0, hN _ ⟨.d (.int (2 + (i : Int))), ?_⟩⟩
      rw [show rootF p q (i + 1) = (2 + i : Int) ^ ((p - 1) / q).toNat % p by show (if _ then _ else _) = _; rw [if_pos c1]]
    · refine hN _ ⟨.d (.int (2 + (i : Int))), ?_⟩
      rw [show rootF p q (i + 1) = rootF p q i by show (if _ then _ else _) = _; rw [if_neg c1]]
  rintro env ⟨y7, rfl⟩
  rw [rootF_end (by omega) (by omega)]
  have r1 := row.r1
  have rp := row.rp
  generalize hR : ((rootN p.toNat q.toNat : Nat) : Int) = R at row r1 rp ⊢
  walk_at "dd"
  refine ⟨_, rfl, by omega, by omega, fun at' a0 a1 => ⟨_, rfl, by omega, by omega, fun st s0 s1 => ?_⟩⟩
  walk_at "dd"
  refine ⟨by omega, by omega, ?_⟩
  have GB : ∀ (ns : List Int) (e : Int), 1 ≤ e → e < q → (∀ b ∈ ns, ∃ e : Nat, 1 ≤ e ∧ (e : Int) < q ∧ b = R ^ e % p) → ∀ b ∈ ns ++ [R ^ e.toNat % p], ∃ e : Nat, 1 ≤ e ∧ (e : Int) < q ∧ b = R ^ e % p := fun ns e e1 e2 h b hb => by
    rcases List.mem_append.mp hb with hb | hb
    · exact h b hb
    · exact ⟨e.toNat, by omega, by omega, List.mem_singleton.mp hb⟩
  have ND : ∀ (ns : List Int) (x : Int), ns.Nodup → x ∉ ns → (ns ++ [x]).Nodup := fun ns x h n => List.nodup_append.mpr ⟨h, by simp, fun a ha b hb => by rw [List.mem_singleton.mp hb]; intro e; subst e; exact n ha⟩
  refine forA_ran (fun i env => ∃ ns y11 y12 y13, env = [.d .pool, .d (.int count), .d (.int least), .d RW, .d (.int p), .d (.int q), .d (.int R), y7, .o (ns.map Dat.int), .d (.int at'), .d (.int (1 + st)), y11, y12, y13, .u] ∧ ns.Nodup ∧ (ns.length : Int) ≤ count ∧ ∀ b ∈ ns, ∃ e : Nat, 1 ≤ e ∧ (e : Int) < q ∧ b = R ^ e % p) ⟨[], _, _, _, rfl, List.nodup_nil, n0, fun _ h => nomatch h⟩ ?_ ?_
  · rintro i env hi ⟨ns, y11, y12, y13, rfl, nd, ln, po⟩ N hN
    walk_at "dd"
    rw [List.length_map]
    refine twoD (fun c1 => ?_) (fun c1 => hN _ ⟨ns, _, _, _, rfl, nd, ln, po⟩)
    have bm := emod_bd (a := at' + (0 + (i : Int)) * (1 + st)) (m := q - 1) (by omega)
    refine ⟨.inl ⟨by omega, by omega⟩, ?_⟩
    refine ⟨by omega, ?_⟩
    generalize (at' + (0 + (i : Int)) * (1 + st)) % (q - 1) = ex at bm ⊢
    refine ⟨_, _, _, rfl, by omega, by omega, by omega, by omega, ?_⟩
    refine kIn_i ?_
    walk_at "dd"
    refine twoN (fun c2 => ?_) (fun c2 => hN _ ⟨ns, _, _, _, rfl, nd, ln, po⟩)
    refine ⟨by omega, hN _ ⟨ns ++ [R ^ (1 + ex).toNat % p], .d (.int (0 + (i : Int))), .d (.int (1 + ex)), .d (.int (R ^ (1 + ex).toNat % p)), ?_, ND _ _ nd c2, ?_, GB ns _ (by omega) (by omega) po⟩⟩
    · rw [List.map_append]
      rfl
    · rw [List.length_append]
      simp only [List.length_cons, List.length_nil]
      omega
  · rintro env ⟨ns, y11, y12, y13, rfl, nd, ln, po⟩
    walk_at "dd"
    refine ⟨⟨by omega, by omega, by omega, by omega⟩, ?_⟩
    refine forA_ran (fun i env => ∃ ns y12 y13, env = [.d .pool, .d (.int count), .d (.int least), .d RW, .d (.int p), .d (.int q), .d (.int R), y7, .o (ns.map Dat.int), .d (.int at'), .d (.int (1 + st)), y11, y12, y13, .u] ∧ ns.Nodup ∧ (ns.length : Int) ≤ count ∧ (∀ b ∈ ns, ∃ e : Nat, 1 ≤ e ∧ (e : Int) < q ∧ b = R ^ e % p) ∧ ((ns.length : Int) < count → ∀ e : Nat, 1 ≤ e → e < 1 + i → R ^ e % p ∈ ns)) ⟨ns, _, _, rfl, nd, ln, po, fun _ e e1 e2 => by omega⟩ ?_ ?_
    · rintro i env hi ⟨ns, y12, y13, rfl, nd, ln, po, al⟩ N hN
      have i2 : (1 : Int) + i < q := by omega
      have i3 : (1 + (i : Int)).toNat = 1 + i := by omega
      walk_at "dd"
      have skip : (R ^ (1 + (i : Int)).toNat % p ∈ ns ∨ ¬ (ns.length : Int) < count) → ((ns.length : Int) < count → ∀ e : Nat, 1 ≤ e → e < 1 + (i + 1) → R ^ e % p ∈ ns) := fun h hl e e1 e2 => by
        by_cases he : e < 1 + i
        · exact al hl e e1 he
        · have : e = 1 + i := by omega
          subst this
          rw [i3] at h
          exact h.resolve_right (fun z => z hl)
      refine ⟨_, _, _, rfl, by omega, by omega, by omega, by omega, ?_⟩
      refine kIn_i ?_
      walk_at "dd"
      rw [List.length_map]
      refine twoN (fun c2 => ?_) (fun c2 => hN _ ⟨ns, _, _, rfl, nd, ln, po, skip (.inl c2)⟩)
      refine twoD (fun c1 => ?_) (fun c1 => hN _ ⟨ns, _, _, rfl, nd, ln, po, skip (.inr c1)⟩)
      refine ⟨by omega, hN _ ⟨ns ++ [R ^ (1 + (i : Int)).toNat % p], .d (.int (1 + (i : Int))), .d (.int (R ^ (1 + (i : Int)).toNat % p)), ?_, ND _ _ nd c2, ?_, GB ns _ (by omega) i2 po, fun hl e e1 e2 => ?_⟩⟩
      · rw [List.map_append]
        rfl
      · rw [List.length_append]
        simp only [List.length_cons, List.length_nil]
        omega
      · by_cases he : e < 1 + i
        · exact List.mem_append_left _ (al c1 e e1 he)
        · have : e = 1 + i := by omega
          subst this
          rw [i3]
          exact List.mem_append_right _ (List.mem_singleton.mpr rfl)
    · rintro env ⟨ns, y12, y13, rfl, nd, ln, po, al⟩
      have full : (ns.length : Int) = count := by
        refine Classical.byContradiction fun hne => ?_
        have hl : (ns.length : Int) < count := by omega
        have al' := al hl
        have sub : ((List.range (q.toNat - 1)).map fun e => R ^ (e + 1) % p).length ≤ ns.length := by
          refine nodup_le ?_ fun x hx => ?_
          · refine List.pairwise_map.mpr (List.Pairwise.imp_of_mem (fun {a b} ha hb hab => ?_) List.pairwise_lt_range)
            have := List.mem_range.mp hb
            exact row.inj (show a + 1 < b + 1 by omega) (by omega)
          · obtain ⟨e, he, rfl⟩ := List.mem_map.mp hx
            have := List.mem_range.mp he
            exact al' (e + 1) (by omega) (by omega)
        rw [List.length_map, List.length_range] at sub
        omega
      walk_at "dd"
      exact hp p q ns ⟨hmt, hok1, hok2, full, nd, fun b hb => by
        obtain ⟨e, e1, e2, e3⟩ := po b hb
        exact ⟨e, e1, e2, by rw [hR]; exact e3⟩⟩
end

/-! ### the law's statements, over data -/
abbrev s__law_statement : Stmt := top 38
theorem sc__law_statement : FnScope ["pool", "group", "values", "most", "unknowns", "equations", "k", "factors", "turn", "base", "element", "name"] ["pool", "group", "values", "most"] (defScope s__law_statement) := ⟨rfl, rfl, rfl, by decide +kernel, rfl, by decide +kernel, by decide +kernel⟩
abbrev s__law_false : Stmt := top 40
theorem sc__law_false : FnScope ["pool", "group", "claim", "equations", "element", "factors"] ["pool", "group", "claim"] (defScope s__law_false) := ⟨rfl, rfl, rfl, by decide +kernel, rfl, by decide +kernel, by decide +kernel⟩
abbrev s__law_sides : Stmt := top 44
theorem sc__law_sides : FnScope ["group", "statement", "numbers", "found", "element", "factors", "base", "name"] ["group", "statement", "numbers"] (defScope s__law_sides) := ⟨rfl, rfl, rfl, by decide +kernel, rfl, by decide +kernel, by decide +kernel⟩
abbrev s__law_firsts : Stmt := top 45
theorem sc__law_firsts : FnScope ["group", "statement", "challenge", "replies", "sides", "found", "k"] ["group", "statement", "challenge", "replies"] (defScope s__law_firsts) := ⟨rfl, rfl, rfl, by decide +kernel, rfl, by decide +kernel, by decide +kernel⟩
/-- the unknowns of a law's statement -/
def nmX (k : Nat) : Str := ("x" : Str) ++ (toString (0 + (k : Int)) : Str)
def nms (n : Nat) : List Str := (List.range n).map nmX
theorem nms_ok : ∀ n < 4, (nms n).Nodup ∧ ∀ u ∈ nms n, PyData.strOk u = true := by decide +kernel
theorem idx_first : ∀ {us : List Str} {u : Str}, u ∈ us → ∃ j : Nat, us[j]? = some u ∧ (∀ m : Nat, m < j → us[m]? ≠ some u)
  | [], _, h => by cases h
  | v :: us, u, h => by
    by_cases e : v = u
    · subst e
      exact ⟨0, rfl, fun m hm => absurd hm (Nat.not_lt_zero _)⟩
    · obtain ⟨j, h1, h2⟩ := idx_first ((List.mem_cons.mp h).resolve_left (fun z => e z.symm))
      refine ⟨j + 1, by simpa using h1, fun m hm z => ?_⟩
      cases m with
      | zero =>
        simp only [List.getElem?_cons_zero, Option.some.injEq] at z
        exact e z
      | succ m =>
        simp only [List.getElem?_cons_succ] at z
        exact h2 m (by omega) z
theorem look_at : ∀ {us : List Str} {xs : List Int} {u : Str} {j : Nat}, us[j]? = some u → (∀ m, m < j → us[m]? ≠ some u) → us.length ≤ xs.length → xs[j]? = some (look us xs u)
  | [], _, _, _, h, _, _ => by cases h
  | _ :: _, [], _, _, _, _, hl => by
    simp only [List.length_cons, List.length_nil] at hl
    omega
  | v :: us, x :: xs, u, 0, h, _, _ => by
    simp only [List.getElem?_cons_zero, Option.some.injEq] at h
    simp [look, h]
  | v :: us, x :: xs, u, j + 1, h, h2, hl => by
    have ne : ¬ v = u := fun z => h2 0 (by omega) (by simp [z])
    simp only [List.getElem?_cons_succ] at h ⊢
    rw [look_at h (fun m hm z => h2 (m + 1) (by omega) (by simpa using z)) (by simpa using hl)]
    simp [look, ne]
theorem flat_strs (xs : List Str) : (xs.map Dat.str).all flatD = true := List.all_eq_true.mpr fun d hd => by
  obtain ⟨y, hy, e⟩ := List.mem_map.mp hd
  subst e
  rfl
/-- the place of an unknown: its number -/
theorem index_L {us : List Str} {xs : List Int} {u : Str} {P : Nat → Prop} (hu : u ∈ us) (hl : us.length ≤ xs.length) (h : ∀ j : Nat, xs[j]? = some (look us xs u) → P j) :
    flatD (.str u) = true ∧ (us.map Dat.str).all flatD = true ∧ ∃ j : Nat, (us.map Dat.str)[j]? = some (.str u) ∧ (∀ m, m < j → (us.map Dat.str)[m]? ≠ some (.str u)) ∧ P j := by
  obtain ⟨j, h1, h2⟩ := idx_first hu
  refine ⟨rfl, flat_strs us, j, by rw [List.getElem?_map, h1]; rfl, fun m hm z => ?_, h j (look_at h1 h2 hl)⟩
  rw [List.getElem?_map] at z
  cases e : us[m]? with
  | none =>
    rw [e] at z
    cases z
  | some v =>
    rw [e] at z
    cases z
    exact h2 m hm e
theorem index_T {us : List Str} {xs : List Int} {u : Str} {P : Nat → Prop} (hu : u ∈ us) (hl : us.length ≤ xs.length) (h : ∀ j : Nat, xs[j]? = some (look us xs u) → P j) :
    ∃ (ss : List Str) (j : Nat), us.map Dat.str = ss.map Dat.str ∧ ss[j]? = some u ∧ (∀ m, m < j → ss[m]? ≠ some u) ∧ P j := by
  obtain ⟨j, h1, h2⟩ := idx_first hu
  exact ⟨us, j, rfl, h1, h2, h j (look_at h1 h2 hl)⟩
/-- a base, as far as the sums ask -/
def Rt (p q b : Int) : Prop := 0 ≤ b ∧ b < p ∧ b ^ q.toNat % p = 1
/-- what the law draws: a statement that values satisfy -/
structure LSt (p q : Int) (us : List Str) (eqs : List Eqn) (vs : List Int) (most : Int) : Prop where
  un : us = nms vs.length
  l3 : vs.length ≤ 3
  le : (eqs.length : Int) ≤ most
  lf : ∀ e ∈ eqs, e.2.length ≤ 3
  fu : ∀ e ∈ eqs, ∀ f ∈ e.2, f.2 ∈ us ∧ Rt p q f.1
  el : ∀ e ∈ eqs, e.1 = side p q us vs e
theorem LSt.so {p q : Int} {us : List Str} {eqs : List Eqn} {vs : List Int} {most : Int} (h : LSt p q us eqs vs most) (hm : most ≤ 100) : StOk us eqs := by
  have l3 := h.l3
  have le := h.le
  obtain ⟨n1, n2⟩ := nms_ok vs.length (by omega)
  have un := h.un
  subst un
  exact ⟨n1, by unfold nms; rw [List.length_map, List.length_range]; omega, by omega, fun e he => by have := h.lf e he; omega, fun e he f hf => (h.fu e he f hf).1, n2⟩
/-- what the laws' sums need of a group -/
structure GB (p q : Int) (bs : List Int) : Prop where
  p3 : 3 ≤ p
  pm : p ≤ 1000000
  q3 : 3 ≤ q
  qm : q ≤ 1100
  l1 : 0 < bs.length
  lm : bs.length ≤ 1000
  rt : ∀ b ∈ bs, Rt p q b
section
variable {P : Program} {w : World} {K : PySem.W.Frag} {mg : Str → Option Value} {base : Heap} {ca : Nat → Addr}
def aspLStat : ASp := fun ds P => ∃ (p q : Int) (bs vs : List Int) (most : Int), ds = [.pool, lgD p q bs, .tup (vs.map .int), .int most] ∧ GB p q bs ∧ vs.length ≤ 3 ∧ 0 ≤ most ∧ most ≤ 100 ∧ ∀ us eqs, LSt p q us eqs vs most → P (stL us eqs)
theorem ok_law_statement {f : Addr} {fd : FuncData} (F : Fun K "_law_statement" "_law_statement" s__law_statement f fd) (B : Blt mg) (C__law_draw : C8.Cal P w K mg base 1 "_law_draw" (toSp K ca aspDraw) []) (C__law_raised : C8.Cal P w K mg base 2 "_law_raised" (toSp K ca aspLRaised) []) (C__law_product : C8.Cal P w K mg base 3 "_law_product" (toSp K ca aspLProduct) []) :
    FnOk P w K mg base CX0 4 f fd ["pool", "group", "values", "most"] (toSp K ca aspLStat) := by
  refine F.ok sc__law_statement (fun vs H Q E h => sp_len (n := 4) (fun ds P a => by obtain ⟨_, _, _, _, _, rfl, _⟩ := a; rfl) h) (fun cdv A outer s H vs Q E hr h => ⟨_, (pss_cons (ps_set (i := 4) sc__law_statement.nd rfl (.inr rfl) (pe_lc (own := [("k", 6)]) (g := gName 6) (tt := tYes) rfl sc__law_statement.nd (pi_range1 rfl B.range (pa_cons (pe_callB (klen (K := K) rfl) (by rfl) B.len bt_len (pa_cons (pv 2) pa_nil)) pa_nil)) (blkOk_by (N := ["pool", "group", "values", "most", "unknowns", "equations", "k", "factors", "turn", "base", "element", "name"]) (sc := defScope s__law_statement) (by decide +kernel))
        (fun _ _ _ _ _ => (pg_name (i := 6) sc__law_statement.nd rfl (.inl rfl))) (fun _ _ _ _ _ => pts_nil)
        (fun _ _ _ _ _ => (pe_op op_add_str pe_str (pe_callTy call_str_int (by rfl) B.str bt_str (pa_cons (pv 6) pa_nil))))))
      (pss_cons (ps_set (i := 5) sc__law_statement.nd rfl (.inl rfl) (pe_lst pa_nil))
      (pss_cons (ps_for PassesOwn.never rfl (pi_range1 rfl B.range (pa_cons (C8.pe_c C__law_draw hr (by omega) rfl (pa_cons (pv 0) (pa_cons (pe_op op_add (pv 3) pe_int) pa_nil))) pa_nil)) (pg_name (i := 6) sc__law_statement.nd rfl (.inl rfl))
      (pss_cons (ps_set (i := 7) sc__law_statement.nd rfl (.inl rfl) (pe_lst pa_nil))
      (pss_cons (ps_for PassesOwn.never rfl (pi_range1 rfl B.range (pa_cons (pe_op op_add pe_int (C8.pe_c C__law_draw hr (by omega) rfl (pa_cons (pv 0) (pa_cons pe_int pa_nil)))) pa_nil)) (pg_name (i := 8) sc__law_statement.nd rfl (.inl rfl))
      (pss_one (ps_if (pt_cmpR op_gt (pe_callB (klen (K := K) rfl) (by rfl) B.len bt_len (pa_cons (pv 2) pa_nil)) pe_int (nomark _)) (pss_cons (ps_set (i := 9) sc__law_statement.nd rfl (.inl rfl) (pe_ix (kixs (K := K) rfl) (pe_tupF (pa_cons (pe_ix (kixs (K := K) rfl) (pe_ix (kixs (K := K) rfl) (pv 1) pe_int (fun _ _ => rfl)) (C8.pe_c C__law_draw hr (by omega) rfl (pa_cons (pv 0) (pa_cons (pe_callB (klen (K := K) rfl) (by rfl) B.len bt_len (pa_cons (pe_ix (kixs (K := K) rfl) (pv 1) pe_int (fun _ _ => rfl)) pa_nil)) pa_nil))) (fun _ _ => rfl)) (pa_cons (C8.pe_c C__law_raised hr (by omega) rfl (pa_cons (pv 1) (pa_cons (pe_ix (kixs (K := K) rfl) (pe_ix (kixs (K := K) rfl) (pv 1) pe_int (fun _ _ => rfl)) pe_int (fun _ _ => rfl)) (pa_cons (C8.pe_c C__law_draw hr (by omega) rfl (pa_cons (pv 0) (pa_cons (pe_ix (kixs (K := K) rfl) (pv 1) pe_int (fun _ _ => rfl)) pa_nil))) pa_nil)))) pa_nil))) (C8.pe_c C__law_draw hr (by omega) rfl (pa_cons (pv 0) (pa_cons pe_int pa_nil))) (fun _ _ => rfl)))
      (pss_one (ps_expr (pe_bm PySem.F.plainAttrs_list PySem.F.slot_list_append PySem.F.type_list_append mt_append (pv 7) (pa_cons (pe_tupF (pa_cons (pv 9) (pa_cons (pe_ix (kixs (K := K) rfl) (pv 4) (C8.pe_c C__law_draw hr (by omega) rfl (pa_cons (pv 0) (pa_cons (pe_callB (klen (K := K) rfl) (by rfl) B.len bt_len (pa_cons (pv 2) pa_nil)) pa_nil))) (fun _ _ => rfl)) pa_nil))) pa_nil))))) pss_nil)))
      (pss_cons (ps_set (i := 10) sc__law_statement.nd rfl (.inl rfl) (C8.pe_c C__law_product hr (by omega) rfl (pa_cons (pv 1) (pa_cons (pe_lc (own := [("base", 9), ("name", 11)]) (tt := tYes) rfl sc__law_statement.nd (kpil (K := K) rfl (pv 7)) (blkOk_by (N := ["pool", "group", "values", "most", "unknowns", "equations", "k", "factors", "turn", "base", "element", "name"]) (sc := defScope s__law_statement) (by decide +kernel))
        (fun _ _ _ _ _ => (kgtup (K := K) (n := 2) rfl rfl (pgs_cons (pg_name (i := 9) sc__law_statement.nd rfl (.inl rfl)) (pgs_cons (pg_name (i := 11) sc__law_statement.nd rfl (.inl rfl)) pgs_nil)))) (fun _ _ _ _ _ => pts_nil)
        (fun _ _ _ _ _ => (pe_tupF (pa_cons (pv 9) (pa_cons (pe_ix (kixs (K := K) rfl) (pv 2) (kbm (K := K) rfl PySem.F.plainAttrs_list PySem.F.slot_list_index PySem.F.type_list_index (kindex (K := K) rfl) (pv 4) (pa_cons (pv 11) pa_nil)) (fun _ _ => rfl)) pa_nil))))) pa_nil))))
      (pss_one (ps_expr (pe_bm PySem.F.plainAttrs_list PySem.F.slot_list_append PySem.F.type_list_append mt_append (pv 5) (pa_cons (pe_tupF (pa_cons (pv 10) (pa_cons (pe_callTy (ktupF (K := K) rfl) (by rfl) B.tuple bt_tuple (pa_cons (pv 7) pa_nil)) pa_nil))) pa_nil))))))))
      (pss_one (ps_ret (pe_tupF (pa_cons (pe_callTy (ktupF (K := K) rfl) (by rfl) B.tuple bt_tuple (pa_cons (pv 4) pa_nil)) (pa_cons (pe_callTy (ktupF (K := K) rfl) (by rfl) B.tuple bt_tuple (pa_cons (pv 5) pa_nil)) pa_nil)))))))),
    fn_run h (fun po => (s_seq (s_set fun _ => (a_fz (a_lc (vs := [6]) (i_ran1 (a_cons (a_b1 u_len (a_pk a_var)) a_nil)) (g_name (by decide)) a_yes (a_op pst_rv rok_catS a_str (a_b1 u_str a_var)))))
      (s_seq (s_setO fun _ => (a_lst a_nil))
      (s_seq (s_for (vs := [6]) (fun _ => (i_ran1 (a_cons (a_call (a_cons a_var (a_cons (a_op pst_rv rok_I0 a_var a_int) a_nil))) a_nil))) (fun _ => (g_name (by decide)))
      (s_seq (s_setO fun _ => (a_lst a_nil))
      (s_seq (s_for (vs := [8]) (fun _ => (i_ran1 (a_cons (a_op pst_rv rok_I0 a_int (a_call (a_cons a_var (a_cons a_int a_nil)))) a_nil))) (fun _ => (g_name (by decide)))
      (s_if (fun _ => (a_test (a_op pst_rv rok_B0 (a_b1 u_len (a_pk a_var)) a_int))) (s_seq (s_set fun _ => (a_op pst_pk rok_ix (a_pk (a_tup (a_cons (a_op pst_pk rok_ix (a_pk (a_op pst_pk rok_ix (a_pk a_var) a_int)) (a_call (a_cons a_var (a_cons (a_b1 u_len (a_pk (a_op pst_pk rok_ix (a_pk a_var) a_int))) a_nil)))) (a_cons (a_call (a_cons a_var (a_cons (a_op pst_pk rok_ix (a_pk (a_op pst_pk rok_ix (a_pk a_var) a_int)) a_int) (a_cons (a_call (a_cons a_var (a_cons (a_op pst_pk rok_ix (a_pk a_var) a_int) a_nil))) a_nil)))) a_nil)))) (a_call (a_cons a_var (a_cons a_int a_nil)))))
      (s_app fun _ => (a_tup (a_cons a_var (a_cons (a_op pst_pk rok_ix (a_pk a_var) (a_call (a_cons a_var (a_cons (a_b1 u_len (a_pk a_var)) a_nil)))) a_nil))))) s_next))
      (s_fz (i := 7) (s_seq (s_set fun _ => (a_call (a_cons a_var (a_cons (a_fz (a_lc (vs := [9, 11]) (i_list a_var) (g_tup (g_cons (g_name (by decide)) (g_cons (g_name (by decide)) g_nil tot_name) tot_name)) a_yes (a_tup (a_cons a_var (a_cons (a_op pst_pk rok_ix (a_pk a_var) (a_indexL (a_pk a_var) a_var)) a_nil))))) a_nil))))
      (s_app fun _ => (a_tup (a_cons a_var (a_cons (a_b1 u_tupOf (a_pk a_var)) a_nil)))))))))
      (s_ret fun _ => (a_tup (a_cons (a_b1 u_tupOf (a_pk a_var)) (a_cons (a_b1 u_tupOf a_peek) a_nil)))))))) (fun ds P a => by obtain ⟨_, _, _, _, _, rfl, _⟩ := a; exact Nat.le_of_ble_eq_true rfl) ?_⟩)
  rintro ds P ⟨p, q, bs, vs, most, rfl, g, l3, m0, m1, hp⟩
  obtain ⟨p3, pm, q3, qm, bl, bm, rt⟩ := g
  walk_at "dd"
  rw [List.length_map, List.length_map, List.length_range, Int.toNat_natCast]
  refine ⟨by omega, by omega, by omega, ?_⟩
  refine lcA_mapL (g := fun i => Dat.str (nmX i)) (fun i hi Q hQ => ?_) ?_
  · have hi' := List.mem_range.mp hi
    walk_at "dd"
    have lt : (toString (0 + (i : Int)) : Str).length ≤ 1 ∧ (("x" : Str)).length = 1 := by
      match i, (show i < 3 by omega) with
      | 0, _ => decide +kernel
      | 1, _ => decide +kernel
      | 2, _ => decide +kernel
    exact ⟨by omega, by omega, hQ⟩
  have en : (List.range vs.length).map (fun i => Dat.str (nmX i)) = (nms vs.length).map .str := by
    unfold nms
    rw [List.map_map]
    rfl
  rw [en]
  have ln : (nms vs.length).length = vs.length := by unfold nms; rw [List.length_map, List.length_range]
  obtain ⟨nd, so⟩ := nms_ok vs.length (by omega)
  have hP : ∀ eqs, LSt p q (nms vs.length) eqs vs most → P (stL (nms vs.length) eqs) := fun eqs h => hp _ eqs h
  have mk : ∀ (eqs : List Eqn), (eqs.length : Int) ≤ most → (∀ e ∈ eqs, e.2.length ≤ 3 ∧ (∀ f ∈ e.2, f.2 ∈ nms vs.length ∧ Rt p q f.1) ∧ e.1 = side p q (nms vs.length) vs e) → LSt p q (nms vs.length) eqs vs most :=
    fun eqs h1 h2 => ⟨rfl, l3, h1, fun e he => (h2 e he).1, fun e he => (h2 e he).2.1, fun e he => (h2 e he).2.2⟩
  generalize nms vs.length = us at ln nd so hP mk ⊢
  refine ⟨_, rfl, by omega, by omega, fun v v0 v1 => ?_⟩
  refine ⟨by omega, by omega, ?_⟩
  refine forA_ran (n := v.toNat) (fun i env => ∃ eqs y6 y7 y8 y9 y10, env = [.d .pool, .d (lgD p q bs), .d (.tup (vs.map .int)), .d (.int most), .d (.lst (us.map .str)), .o (eqs.map eqD), y6, y7, y8, y9, y10, .u] ∧ eqs.length = i ∧ (∀ e ∈ eqs, e.2.length ≤ 3 ∧ (∀ f ∈ e.2, f.2 ∈ us ∧ Rt p q f.1) ∧ e.1 = side p q us vs e)) ⟨[], _, _, _, _, _, rfl, rfl, fun _ h => nomatch h⟩ ?_ ?_
  · rintro i env hi ⟨eqs, y6, y7, y8, y9, y10, rfl, le, he⟩ N hN
    walk_at "dd"
    refine ⟨_, rfl, by omega, by omega, fun t t0 t1 => ?_⟩
    walk_at "dd"
    refine ⟨by omega, by omega, ?_⟩
    refine forA_ran (n := (1 + t).toNat) (fun j env => ∃ fs y8 y9, env = [.d .pool, .d (lgD p q bs), .d (.tup (vs.map .int)), .d (.int most), .d (.lst (us.map .str)), .o (eqs.map eqD), .d (.int (0 + (i : Int))), .o (fs.map fcD), y8, y9, y10, .u] ∧ fs.length ≤ j ∧ (∀ f ∈ fs, f.2 ∈ us ∧ Rt p q f.1)) ⟨[], _, _, rfl, Nat.le_refl _, fun _ h => nomatch h⟩ ?_ ?_
    · rintro j env hj ⟨fs, y8, y9, rfl, lf, hf⟩ N hN
      unfold lgD
      walk_at "dd"
      rw [List.length_map]
      refine twoD (fun c1 => ?_) (fun c1 => hN _ ⟨fs, _, _, rfl, by omega, hf⟩)
      rw [List.length_map]
      refine draw (by omega) (by omega) fun b b0 b1 => ix_any b0 b1 fun b hb => ?_
      obtain ⟨c0, hc0⟩ : ∃ c, bs[0]? = some c := ⟨_, List.getElem?_eq_getElem bl⟩
      refine oa_at (j := 0) rfl hc0 ?_
      refine draw (by omega) (by omega) fun k k0 k1 => ?_
      have rc := rt c0 (List.mem_of_getElem? hc0)
      refine ⟨p, q, c0, k, bs, rfl, by omega, by omega, by omega, by omega, ?_⟩
      have fin : ∀ x : Int, Rt p q x → (List.map fcD fs).length < 100000 ∧ aspDraw [Dat.pool, Dat.int ↑vs.length] fun y => kIx (Dat.lst (List.map Dat.str us)) y fun u =>
          N [Sl.d Dat.pool, Sl.d (lgD p q bs), Sl.d (Dat.tup (List.map Dat.int vs)), Sl.d (Dat.int most), Sl.d (Dat.lst (List.map Dat.str us)), Sl.o (List.map eqD eqs), Sl.d (Dat.int (0 + (i : Int))), Sl.o (List.map fcD fs ++ [Dat.tup [.int x, u]]), Sl.d (Dat.int (0 + (j : Int))), Sl.d (.int x), y10, Sl.u] := fun x hx => by
        refine ⟨by rw [List.length_map]; omega, ?_⟩
        refine draw (by omega) (by omega) fun t t0 t1 => ix_any t0 (by omega) fun u hu => hN _ ⟨fs ++ [(x, u)], .d (.int (0 + (j : Int))), .d (.int x), ?_, ?_, fun f hf' => ?_⟩
        · rw [List.map_append]
          rfl
        · rw [List.length_append]
          exact Nat.succ_le_succ lf
        · rcases List.mem_append.mp hf' with h | h
          · exact hf f h
          · rw [List.mem_singleton.mp h]
            exact ⟨hu, hx⟩
      refine draw (by omega) (by omega) fun r r0 r1 => ix_two r0 r1 ?_ ?_
      · exact fin b (rt b hb)
      · have bd := emod_bd (a := c0 ^ (k % q).toNat) (m := p) (by omega)
        exact fin (rz p q c0 k) ⟨bd.1, bd.2, rz_root (by omega) rc.2.2 k⟩
    · rintro env ⟨fs, y8, y9, rfl, lf, hf⟩
      walk_at "dd"
      rw [List.length_map]
      refine ⟨by omega, ?_⟩
      refine lcA_mapL (g := fun f => prT (f.1, look us vs f.2)) (fun f hf' Q hQ => ?_) ?_
      · unfold fcD
        walk_at "dd"
        unfold aIndexL
        walk_at "dd"
        refine index_L (xs := vs) (hf f hf').1 (by omega) fun j hj => ?_
        exact oa_at rfl hj hQ
      refine ⟨p, q, bs, fs.map fun f => (f.1, look us vs f.2), by rw [List.map_map]; rfl, by omega, by omega, by omega, by omega, ?_⟩
      rw [List.length_map]
      refine ⟨by omega, hN _ ⟨eqs ++ [(side p q us vs (0, fs), fs)], .d (.int (0 + (i : Int))), .d (.lst (fs.map fcD)), y8, y9, .d (.int (side p q us vs (0, fs))), ?_, ?_, fun e he' => ?_⟩⟩
      · rw [List.map_append]
        rfl
      · rw [List.length_append, le]
        rfl
      · rcases List.mem_append.mp he' with h | h
        · exact he e h
        · rw [List.mem_singleton.mp h]
          exact ⟨by show fs.length ≤ 3; omega, hf, rfl⟩
  · rintro env ⟨eqs, y6, y7, y8, y9, y10, rfl, le, he⟩
    walk_at "dd"
    exact hP eqs (mk eqs (by omega) he)
/-- an equation with another element -/
def Fls (p q b0 : Int) (e e' : Eqn) : Prop := e'.2 = e.2 ∧ ∃ k, 0 ≤ k ∧ k < q ∧ e'.1 = prZ p q [(e.1, 1), (b0, k)]
theorem paired_snoc {α β : Type} {R : α → β → Prop} {x : α} {y : β} (r : R x y) : ∀ {xs : List α} {ys : List β}, Paired R xs ys → Paired R (xs ++ [x]) (ys ++ [y])
  | _, _, .nil => .cons r .nil
  | _, _, .cons a b => .cons a (paired_snoc r b)
theorem paired_len {α β : Type} {R : α → β → Prop} : ∀ {xs : List α} {ys : List β}, Paired R xs ys → ys.length = xs.length
  | _, _, .nil => rfl
  | _, _, .cons _ b => congrArg (· + 1) (paired_len b)
def aspLFalse : ASp := fun ds P => ∃ (p q b0 : Int) (bs : List Int) (us : List Str) (eqs : List Eqn) (d : Dat), ds = [.pool, lgD p q (b0 :: bs), .tup [stL us eqs, d]] ∧ 0 < q ∧ q < 1073741824 ∧ 1 < p ∧ p < 2147483648 ∧ eqs.length ≤ 1000 ∧ ∀ eqs', Paired (Fls p q b0) eqs eqs' → P (.tup [stL us eqs', d])
theorem ok_law_false {f : Addr} {fd : FuncData} (F : Fun K "_law_false" "_law_false" s__law_false f fd) (B : Blt mg) (C__law_draw : C8.Cal P w K mg base 1 "_law_draw" (toSp K ca aspDraw) []) (C__law_product : C8.Cal P w K mg base 3 "_law_product" (toSp K ca aspLProduct) []) :
    FnOk P w K mg base CX0 4 f fd ["pool", "group", "claim"] (toSp K ca aspLFalse) := by
  refine F.ok sc__law_false (fun vs H Q E h => sp_len (n := 3) (fun ds P a => by obtain ⟨_, _, _, _, _, _, _, rfl, _⟩ := a; rfl) h) (fun cdv A outer s H vs Q E hr h => ⟨_, (pss_cons (ps_set (i := 3) sc__law_false.nd rfl (.inl rfl) (pe_lst pa_nil))
      (pss_cons (ps_for PassesOwn.never rfl (kpit (K := K) rfl (pe_ix (kixs (K := K) rfl) (pe_ix (kixs (K := K) rfl) (pv 2) pe_int (fun _ _ => rfl)) pe_int (fun _ _ => rfl))) (kgtup (K := K) (n := 2) rfl rfl (pgs_cons (pg_name (i := 4) sc__law_false.nd rfl (.inl rfl)) (pgs_cons (pg_name (i := 5) sc__law_false.nd rfl (.inl rfl)) pgs_nil)))
      (pss_one (ps_expr (pe_bm PySem.F.plainAttrs_list PySem.F.slot_list_append PySem.F.type_list_append mt_append (pv 3) (pa_cons (pe_tupF (pa_cons (C8.pe_c C__law_product hr (by omega) rfl (pa_cons (pv 1) (pa_cons (pe_lst (pa_cons (pe_tupF (pa_cons (pv 4) (pa_cons pe_int pa_nil))) (pa_cons (pe_tupF (pa_cons (pe_ix (kixs (K := K) rfl) (pe_ix (kixs (K := K) rfl) (pv 1) pe_int (fun _ _ => rfl)) pe_int (fun _ _ => rfl)) (pa_cons (C8.pe_c C__law_draw hr (by omega) rfl (pa_cons (pv 0) (pa_cons (pe_ix (kixs (K := K) rfl) (pv 1) pe_int (fun _ _ => rfl)) pa_nil))) pa_nil))) pa_nil))) pa_nil))) (pa_cons (pv 5) pa_nil))) pa_nil)))))
      (pss_one (ps_ret (pe_tupF (pa_cons (pe_tupF (pa_cons (pe_ix (kixs (K := K) rfl) (pe_ix (kixs (K := K) rfl) (pv 2) pe_int (fun _ _ => rfl)) pe_int (fun _ _ => rfl)) (pa_cons (pe_callTy (ktupF (K := K) rfl) (by rfl) B.tuple bt_tuple (pa_cons (pv 3) pa_nil)) pa_nil))) (pa_cons (pe_ix (kixs (K := K) rfl) (pv 2) pe_int (fun _ _ => rfl)) pa_nil))))))),
    fn_run h (fun po => (s_seq (s_setO fun _ => (a_lst a_nil))
      (s_seq (s_for (vs := [4, 5]) (fun _ => (i_tup (a_op pst_pk rok_ix (a_pk (a_op pst_pk rok_ix (a_pk a_var) a_int)) a_int))) (fun _ => (g_tup (g_cons (g_name (by decide)) (g_cons (g_name (by decide)) g_nil tot_name) tot_name)))
      (s_app fun _ => (a_tup (a_cons (a_call (a_cons a_var (a_cons (a_fz (a_lst (a_cons (a_tup (a_cons a_var (a_cons a_int a_nil))) (a_cons (a_tup (a_cons (a_op pst_pk rok_ix (a_pk (a_op pst_pk rok_ix (a_pk a_var) a_int)) a_int) (a_cons (a_call (a_cons a_var (a_cons (a_op pst_pk rok_ix (a_pk a_var) a_int) a_nil))) a_nil))) a_nil)))) a_nil))) (a_cons a_var a_nil)))))
      (s_ret fun _ => (a_tup (a_cons (a_tup (a_cons (a_op pst_pk rok_ix (a_pk (a_op pst_pk rok_ix (a_pk a_var) a_int)) a_int) (a_cons (a_b1 u_tupOf a_peek) a_nil))) (a_cons (a_op pst_pk rok_ix (a_pk a_var) a_int) a_nil))))))) (fun ds P a => by obtain ⟨_, _, _, _, _, _, _, rfl, _⟩ := a; exact Nat.le_of_ble_eq_true rfl) ?_⟩)
  rintro ds P ⟨p, q, b0, bs, us, eqs, d, rfl, q0, q1, p0, p1, le, hp⟩
  unfold stL
  walk_at "dd"
  refine forA_map (fun i env => ∃ eqs' y4 y5, env = [.d .pool, .d (lgD p q (b0 :: bs)), .d (.tup [.tup [.tup (us.map .str), .tup (eqs.map eqD)], d]), .o (eqs'.map eqD), y4, y5] ∧ Paired (Fls p q b0) (eqs.take i) eqs') ⟨[], _, _, rfl, .nil⟩ ?_ ?_
  · rintro i e env hi ⟨eqs', y4, y5, rfl, pr⟩ N hN
    have lt := (List.getElem?_eq_some_iff.mp hi).1
    have ll := paired_len pr
    rw [List.length_take] at ll
    unfold lgD eqD
    walk_at "dd"
    refine ⟨by rw [List.length_map]; omega, ?_⟩
    refine draw (by omega) (by omega) fun k k0 k1 => ?_
    refine ⟨p, q, b0 :: bs, [(e.1, 1), (b0, k)], rfl, by omega, by omega, by omega, by omega, ?_⟩
    have e1 : eqs'.map (fun x : Eqn => Dat.tup [Dat.int x.1, Dat.tup (x.2.map fcD)]) ++ [Dat.tup [Dat.int (prZ p q [(e.1, 1), (b0, k)]), Dat.tup (e.2.map fcD)]] = (eqs' ++ [(prZ p q [(e.1, 1), (b0, k)], e.2)]).map eqD := by
      rw [List.map_append]
      rfl
    try dsimp only
    rw [e1]
    refine hN _ ⟨_, _, _, rfl, ?_⟩
    rw [take_snoc hi]
    exact paired_snoc ⟨rfl, k, k0, k1, rfl⟩ pr
  · rintro env ⟨eqs', y4, y5, rfl, pr⟩
    rw [List.take_length] at pr
    walk_at "dd"
    exact hp eqs' pr
theorem ix_sq {α : Type} {k : Bool} {f : α → Dat} {xs : List α} {v : Int} {j : Nat} {x : α} {P : Dat → Prop} (e : v = (j : Int)) (h1 : xs[j]? = some x) (h : P (f x)) : kIx (sqD k (xs.map f)) (.int v) P := by
  cases k with
  | true => exact ix_atT (f := f) e h1 h
  | false => exact ix_at (f := f) e h1 h
def aspLSides : ASp := fun ds P => ∃ (k : Bool) (p q : Int) (bs : List Int) (us : List Str) (eqs : List Eqn) (xs : List Int), ds = [lgD p q bs, stL us eqs, sqD k (xs.map .int)] ∧ 0 < q ∧ q < 2147483648 ∧ 1 < p ∧ p < 2147483648 ∧ StOk us eqs ∧ us.length ≤ xs.length ∧ P (.lst ((sides p q us eqs xs).map .int))
theorem ok_law_sides {f : Addr} {fd : FuncData} (F : Fun K "_law_sides" "_law_sides" s__law_sides f fd) (B : Blt mg) (C__law_product : C8.Cal P w K mg base 3 "_law_product" (toSp K ca aspLProduct) []) :
    FnOk P w K mg base CX0 4 f fd ["group", "statement", "numbers"] (toSp K ca aspLSides) := by
  refine F.ok sc__law_sides (fun vs H Q E h => sp_len (n := 3) (fun ds P a => by obtain ⟨_, _, _, _, _, _, _, rfl, _⟩ := a; rfl) h) (fun cdv A outer s H vs Q E hr h => ⟨_, (pss_cons (ps_set (i := 3) sc__law_sides.nd rfl (.inl rfl) (pe_lst pa_nil))
      (pss_cons (ps_for PassesOwn.never rfl (kpit (K := K) rfl (pe_ix (kixs (K := K) rfl) (pv 1) pe_int (fun _ _ => rfl))) (kgtup (K := K) (n := 2) rfl rfl (pgs_cons (pg_name (i := 4) sc__law_sides.nd rfl (.inl rfl)) (pgs_cons (pg_name (i := 5) sc__law_sides.nd rfl (.inl rfl)) pgs_nil)))
      (pss_one (ps_expr (pe_bm PySem.F.plainAttrs_list PySem.F.slot_list_append PySem.F.type_list_append mt_append (pv 3) (pa_cons (C8.pe_c C__law_product hr (by omega) rfl (pa_cons (pv 0) (pa_cons (pe_lc (own := [("base", 6), ("name", 7)]) (tt := tYes) rfl sc__law_sides.nd (kpit (K := K) rfl (pv 5)) (blkOk_by (N := ["group", "statement", "numbers", "found", "element", "factors", "base", "name"]) (sc := defScope s__law_sides) (by decide +kernel))
        (fun _ _ _ _ _ => (kgtup (K := K) (n := 2) rfl rfl (pgs_cons (pg_name (i := 6) sc__law_sides.nd rfl (.inl rfl)) (pgs_cons (pg_name (i := 7) sc__law_sides.nd rfl (.inl rfl)) pgs_nil)))) (fun _ _ _ _ _ => pts_nil)
        (fun _ _ _ _ _ => (pe_tupF (pa_cons (pv 6) (pa_cons (pe_ix (kixs (K := K) rfl) (pv 2) (pe_tm (K := K) rfl PySem.F.slot_tuple_index PySem.F.type_tuple_index (ktindex (K := K) rfl) (pe_ix (kixs (K := K) rfl) (pv 1) pe_int (fun _ _ => rfl)) (pa_cons (pv 7) pa_nil)) (fun _ _ => rfl)) pa_nil))))) pa_nil))) pa_nil)))))
      (pss_one (ps_ret (pv 3))))),
    fn_run h (fun po => (s_seq (s_setO fun _ => (a_lst a_nil))
      (s_seq (s_for (vs := [4, 5]) (fun _ => (i_tup (a_op pst_pk rok_ix (a_pk a_var) a_int))) (fun _ => (g_tup (g_cons (g_name (by decide)) (g_cons (g_name (by decide)) g_nil tot_name) tot_name)))
      (s_app fun _ => (a_call (a_cons a_var (a_cons (a_fz (a_lc (vs := [6, 7]) (i_tup a_var) (g_tup (g_cons (g_name (by decide)) (g_cons (g_name (by decide)) g_nil tot_name) tot_name)) a_yes (a_tup (a_cons a_var (a_cons (a_op pst_pk rok_ix (a_pk a_var) (a_indexT (a_op pst_pk rok_ix (a_pk a_var) a_int) a_var)) a_nil))))) a_nil)))))
      (s_fz (i := 3) (s_ret fun _ => a_var))))) (fun ds P a => by obtain ⟨_, _, _, _, _, _, _, rfl, _⟩ := a; exact Nat.le_of_ble_eq_true rfl) ?_⟩)
  rintro ds P ⟨k, p, q, bs, us, eqs, xs, rfl, q0, q1, p0, p1, so, hl, hp⟩
  unfold stL
  walk_at "dd"
  refine forA_map (fun i env => ∃ y4 y5, env = [.d (lgD p q bs), .d (.tup [.tup (us.map .str), .tup (eqs.map eqD)]), .d (sqD k (xs.map .int)), .o ((sides p q us (eqs.take i) xs).map .int), y4, y5, .u, .u]) ⟨_, _, rfl⟩ ?_ ?_
  · rintro i e env hi ⟨y4, y5, rfl⟩ N hN
    have me := List.mem_of_getElem? hi
    have lt := (List.getElem?_eq_some_iff.mp hi).1
    have le := so.le
    have lf := so.lf e me
    unfold eqD
    walk_at "dd"
    refine ⟨by unfold sides; rw [List.length_map, List.length_map, List.length_take]; omega, by rw [List.length_map]; omega, ?_⟩
    refine lcA_mapL (g := fun f => prT (f.1, look us xs f.2)) (fun x hx Q hQ => ?_) ?_
    · unfold fcD
      walk_at "dd"
      unfold aIndexT
      walk_at "dd"
      exact index_T (xs := xs) (so.fu e me x hx) hl fun j hj => ix_sq rfl hj hQ
    · refine ⟨p, q, bs, e.2.map fun f => (f.1, look us xs f.2), by rw [List.map_map]; rfl, by omega, by omega, by omega, by omega, ?_⟩
      have e1 : (sides p q us (eqs.take i) xs).map Dat.int ++ [Dat.int (prZ p q (e.2.map fun f => (f.1, look us xs f.2)))] = (sides p q us (eqs.take (i + 1)) xs).map .int := by
        rw [take_snoc hi, sides_snoc, List.map_append]
        rfl
      try dsimp only
      rw [e1]
      exact hN _ ⟨_, _, rfl⟩
  · rintro env ⟨y4, y5, rfl⟩
    walk_at "dd"
    rw [List.take_length]
    exact hp
def aspLFirsts : ASp := fun ds P => ∃ (k : Bool) (p q : Int) (bs : List Int) (us : List Str) (eqs : List Eqn) (c : Int) (rs : List Int), ds = [lgD p q bs, stL us eqs, .int c, sqD k (rs.map .int)] ∧ 0 < q ∧ q < 2147483648 ∧ 1 < p ∧ p < 2147483648 ∧ StOk us eqs ∧ us.length ≤ rs.length ∧ P (.tup ((firsts p q us eqs c rs).map .int))
theorem ok_law_firsts {f : Addr} {fd : FuncData} (F : Fun K "_law_firsts" "_law_firsts" s__law_firsts f fd) (B : Blt mg) (C__law_product : C8.Cal P w K mg base 3 "_law_product" (toSp K ca aspLProduct) []) (C__law_sides : C8.Cal P w K mg base 4 "_law_sides" (toSp K ca aspLSides) []) :
    FnOk P w K mg base CX0 5 f fd ["group", "statement", "challenge", "replies"] (toSp K ca aspLFirsts) := by
  refine F.ok sc__law_firsts (fun vs H Q E h => sp_len (n := 4) (fun ds P a => by obtain ⟨_, _, _, _, _, _, _, _, rfl, _⟩ := a; rfl) h) (fun cdv A outer s H vs Q E hr h => ⟨_, (pss_cons (ps_set (i := 4) sc__law_firsts.nd rfl (.inl rfl) (C8.pe_c C__law_sides hr (by omega) rfl (pa_cons (pv 0) (pa_cons (pv 1) (pa_cons (pv 3) pa_nil)))))
      (pss_cons (ps_set (i := 5) sc__law_firsts.nd rfl (.inl rfl) (pe_lst pa_nil))
      (pss_cons (ps_for PassesOwn.never rfl (pi_range1 rfl B.range (pa_cons (pe_callB (klen (K := K) rfl) (by rfl) B.len bt_len (pa_cons (pv 4) pa_nil)) pa_nil)) (pg_name (i := 6) sc__law_firsts.nd rfl (.inl rfl))
      (pss_one (ps_expr (pe_bm PySem.F.plainAttrs_list PySem.F.slot_list_append PySem.F.type_list_append mt_append (pv 5) (pa_cons (C8.pe_c C__law_product hr (by omega) rfl (pa_cons (pv 0) (pa_cons (pe_lst (pa_cons (pe_tupF (pa_cons (pe_ix (kixs (K := K) rfl) (pv 4) (pv 6) (fun _ _ => rfl)) (pa_cons pe_int pa_nil))) (pa_cons (pe_tupF (pa_cons (pe_ix (kixs (K := K) rfl) (pe_ix (kixs (K := K) rfl) (pe_ix (kixs (K := K) rfl) (pv 1) pe_int (fun _ _ => rfl)) (pv 6) (fun _ _ => rfl)) pe_int (fun _ _ => rfl)) (pa_cons (pe_op op_sub pe_int (pv 2)) pa_nil))) pa_nil))) pa_nil))) pa_nil)))))
      (pss_one (ps_ret (pe_callTy (ktupF (K := K) rfl) (by rfl) B.tuple bt_tuple (pa_cons (pv 5) pa_nil))))))),
    fn_run h (fun po => (s_seq (s_set fun _ => (a_call (a_cons a_var (a_cons a_var (a_cons a_var a_nil)))))
      (s_seq (s_setO fun _ => (a_lst a_nil))
      (s_seq (s_for (vs := [6]) (fun _ => (i_ran1 (a_cons (a_b1 u_len (a_pk a_var)) a_nil))) (fun _ => (g_name (by decide)))
      (s_app fun _ => (a_call (a_cons a_var (a_cons (a_fz (a_lst (a_cons (a_tup (a_cons (a_op pst_pk rok_ix (a_pk a_var) a_var) (a_cons a_int a_nil))) (a_cons (a_tup (a_cons (a_op pst_pk rok_ix (a_pk (a_op pst_pk rok_ix (a_pk (a_op pst_pk rok_ix (a_pk a_var) a_int)) a_var)) a_int) (a_cons (a_op pst_rv rok_I0 a_int a_var) a_nil))) a_nil)))) a_nil)))))
      (s_ret fun _ => (a_b1 u_tupOf a_peek)))))) (fun ds P a => by obtain ⟨_, _, _, _, _, _, _, _, rfl, _⟩ := a; exact Nat.le_of_ble_eq_true rfl) ?_⟩)
  rintro ds P ⟨k, p, q, bs, us, eqs, c, rs, rfl, q0, q1, p0, p1, so, hl, hp⟩
  walk_at "dd"
  refine ⟨k, p, q, bs, us, eqs, rs, rfl, by omega, by omega, by omega, by omega, so, hl, ?_⟩
  have le := so.le
  have ls : (sides p q us eqs rs).length = eqs.length := List.length_map _
  walk_at "dd"
  rw [List.length_map, ls]
  refine ⟨by omega, by omega, ?_⟩
  refine forA_ran (n := eqs.length) (fun i env => ∃ y6, env = [.d (lgD p q bs), .d (stL us eqs), .d (.int c), .d (sqD k (rs.map .int)), .d (.lst ((sides p q us eqs rs).map .int)), .o ((firsts p q us (eqs.take i) c rs).map .int), y6]) ⟨_, rfl⟩ ?_ ?_
  · rintro i env hi ⟨y6, rfl⟩ N hN
    have he : eqs[i]? = some eqs[i] := List.getElem?_eq_getElem hi
    generalize eqs[i] = e at he
    unfold stL
    walk_at "dd"
    refine ⟨by unfold firsts; rw [List.length_map, List.length_map, List.length_take]; omega, ?_⟩
    refine oa_at (j := i) (Int.zero_add _) (x := side p q us rs e) (by unfold sides; rw [List.getElem?_map, he]; rfl) ?_
    refine oa_at (j := i) (Int.zero_add _) he ?_
    unfold eqD
    walk_at "dd"
    refine ⟨p, q, bs, [(side p q us rs e, 1), (e.1, 0 - c)], rfl, by omega, by omega, by omega, by omega, ?_⟩
    try dsimp only
    rw [Int.zero_sub]
    have e1 : (firsts p q us (eqs.take i) c rs).map Dat.int ++ [Dat.int (prZ p q [(side p q us rs e, 1), (e.1, -c)])] = (firsts p q us (eqs.take (i + 1)) c rs).map .int := by
      rw [take_snoc he, firsts_snoc, List.map_append]
      rfl
    try dsimp only
    rw [e1]
    exact hN _ ⟨_, rfl⟩
  · rintro env ⟨y6, rfl⟩
    walk_at "dd"
    rw [List.take_length]
    exact hp
end

/-! ### the algebra of statements -/
theorem prF_acc {p q : Int} : ∀ (l : List (Int × Int)) (a : Int), prF p q a l % p = a * prZ p q l % p
  | [], a => by
    show a % p = a * 1 % p
    rw [Int.mul_one]
  | (e, k) :: r, a => by
    show prF p q (a * rz p q e k % p) r % p = a * prF p q (1 * rz p q e k % p) r % p
    have h1 := prF_acc (p := p) (q := q) r (a * rz p q e k % p)
    have h2 := prF_acc (p := p) (q := q) r (1 * rz p q e k % p)
    rw [h1, mul_emod_l, ← mul_emod_r a (prF p q (1 * rz p q e k % p) r) p, h2, mul_emod_l, mul_emod_r, Int.one_mul, Int.mul_assoc]
theorem prZ_bd {p q : Int} (h : 1 < p) (l : List (Int × Int)) : 0 ≤ prZ p q l ∧ prZ p q l < p := prF_bd h l 1 (by omega) h
theorem prZ_mod {p q : Int} (h : 1 < p) (l : List (Int × Int)) : prZ p q l % p = prZ p q l := Int.emod_eq_of_lt (prZ_bd h l).1 (prZ_bd h l).2
theorem prZ_cons {p q : Int} (h : 1 < p) (e k : Int) (r : List (Int × Int)) : prZ p q ((e, k) :: r) = rz p q e k * prZ p q r % p := by
  rw [← prZ_mod h]
  show prF p q (1 * rz p q e k % p) r % p = _
  rw [prF_acc, mul_emod_l, Int.one_mul]
theorem rz_mul {p q e : Int} (q0 : 0 < q) (hp : 1 < p) (h : e ^ q.toNat % p = 1) (k j : Int) : rz p q (rz p q e k) j = rz p q e (k * j) := by
  unfold rz
  rw [pow_emod, ← Int.pow_mul]
  have b1 := emod_bd (a := k) q0
  have b2 := emod_bd (a := j) q0
  have b3 := emod_bd (a := k * j) q0
  refine pow_mod_q q0 hp h ?_
  rw [Int.natCast_mul, Int.toNat_of_nonneg b1.1, Int.toNat_of_nonneg b2.1, Int.toNat_of_nonneg b3.1, Int.emod_emod, ← Int.mul_emod]
theorem rz_prod (p q a b c : Int) : rz p q (a * b % p) c = rz p q a c * rz p q b c % p := by
  unfold rz
  rw [pow_emod, Int.mul_pow, Int.mul_emod]
theorem rz_one {p q e : Int} (q1 : 1 < q) (h0 : 0 ≤ e) (h1 : e < p) : rz p q e 1 = e := by
  unfold rz
  rw [Int.emod_eq_of_lt (by omega) q1]
  show e ^ 1 % p = e
  rw [Int.pow_succ, Int.pow_zero, Int.one_mul, Int.emod_eq_of_lt h0 h1]
theorem rz_zero {p q e : Int} (hp : 1 < p) : rz p q e 0 = 1 := by
  unfold rz
  rw [Int.zero_emod]
  show e ^ 0 % p = 1
  rw [Int.pow_zero, one_mod hp]
theorem rz_base {p q k : Int} (hp : 1 < p) : rz p q 1 k = 1 := by
  unfold rz
  rw [Int.one_pow, one_mod hp]
theorem rz_bd {p q e k : Int} (hp : 1 < p) : 0 ≤ rz p q e k ∧ rz p q e k < p := emod_bd (by omega)
theorem prZ_modk {p q : Int} {α : Type} (hp : 1 < p) (b x : α → Int) : ∀ fs : List α, prZ p q (fs.map fun f => (b f, x f % q)) = prZ p q (fs.map fun f => (b f, x f))
  | [] => rfl
  | f :: fs => by rw [List.map_cons, List.map_cons, prZ_cons hp, prZ_cons hp, rz_mod, prZ_modk hp b x fs]
theorem prZ_lin {p q : Int} {α : Type} (q0 : 0 < q) (hp : 1 < p) (b x y : α → Int) (c : Int) : ∀ fs : List α, (∀ f ∈ fs, b f ^ q.toNat % p = 1) → prZ p q (fs.map fun f => (b f, x f + c * y f)) = prZ p q (fs.map fun f => (b f, x f)) * rz p q (prZ p q (fs.map fun f => (b f, y f))) c % p
  | [], _ => by
    show (1 : Int) = 1 * rz p q 1 c % p
    rw [rz_base hp, Int.one_mul, one_mod hp]
  | f :: fs, h => by
    have hb := h f List.mem_cons_self
    rw [List.map_cons, List.map_cons, List.map_cons, prZ_cons hp, prZ_cons hp, prZ_cons hp, prZ_lin q0 hp b x y c fs fun g hg => h g (List.mem_cons_of_mem _ hg)]
    rw [rz_prod, ← rz_add q0 hp hb, Int.mul_comm c, ← rz_mul q0 hp hb, mul_emod_l, mul_emod_r, mul_emod_l, mul_emod_r]
    congr 1
    ac_rfl
theorem rz_neg {p q e : Int} (q0 : 0 < q) (hp : 1 < p) (h : e ^ q.toNat % p = 1) (c : Int) : rz p q e c * rz p q e (-c) % p = 1 := by
  rw [rz_add q0 hp h, Int.add_right_neg, rz_zero hp]
theorem look_zip (f : Int → Int → Int) : ∀ {us : List Str} {xs ys : List Int} {u : Str}, u ∈ us → us.length ≤ xs.length → us.length ≤ ys.length → look us (List.zipWith f xs ys) u = f (look us xs u) (look us ys u)
  | [], _, _, _, h, _, _ => by cases h
  | _ :: _, [], _, _, _, h, _ => by simp at h
  | _ :: _, _ :: _, [], _, _, _, h => by simp at h
  | v :: us, x :: xs, y :: ys, u, h, h1, h2 => by
    by_cases e : v = u
    · simp [look, e]
    · have ih := look_zip f ((List.mem_cons.mp h).resolve_left fun z => e z.symm) (xs := xs) (ys := ys) (by simpa using h1) (by simpa using h2)
      simp only [List.zipWith_cons_cons, look, e, if_false]
      exact ih
/-- the replies to a challenge -/
def dueR (q c : Int) (ts vs : List Int) : List Int := List.zipWith (fun t v => (t + c * v) % q) ts vs
theorem side_due {p q : Int} (q0 : 0 < q) (hp : 1 < p) {us : List Str} {e : Eqn} {ts vs : List Int} {c : Int} (hf : ∀ f ∈ e.2, f.2 ∈ us ∧ f.1 ^ q.toNat % p = 1) (l1 : us.length ≤ ts.length) (l2 : us.length ≤ vs.length) :
    side p q us (dueR q c ts vs) e = side p q us ts e * rz p q (side p q us vs e) c % p := by
  unfold side dueR
  have e1 : (e.2.map fun f => (f.1, look us (List.zipWith (fun t v => (t + c * v) % q) ts vs) f.2)) = e.2.map fun f => (f.1, (look us ts f.2 + c * look us vs f.2) % q) :=
    List.map_congr_left fun f h => by rw [look_zip _ (hf f h).1 l1 l2]
  rw [e1, prZ_modk hp (fun f : Fac => f.1), prZ_lin q0 hp (fun f : Fac => f.1) _ _ c e.2 fun f h => (hf f h).2]
theorem side_root {p q : Int} (hp : 1 < p) {us : List Str} {e : Eqn} {vs : List Int} (hf : ∀ f ∈ e.2, f.1 ^ q.toNat % p = 1) : side p q us vs e ^ q.toNat % p = 1 :=
  prF_root hp _ 1 (by rw [Int.one_pow, one_mod hp]) fun x hx => by
    obtain ⟨f, h, rfl⟩ := List.mem_map.mp hx
    exact hf f h
/-- what replies fit to, one equation -/
theorem fit1 {p q S E c : Int} (q1 : 1 < q) (hp : 1 < p) (s0 : 0 ≤ S) (s1 : S < p) : prZ p q [(S, 1), (E, -c)] = S * rz p q E (-c) % p := by
  rw [prZ_cons hp, prZ_cons hp, rz_one q1 s0 s1]
  show S * (rz p q E (-c) * 1 % p) % p = _
  rw [Int.mul_one, mul_emod_r]
theorem firsts_due {p q : Int} (q1 : 1 < q) (hp : 1 < p) {us : List Str} {eqs : List Eqn} {ts vs : List Int} {c : Int} (hf : ∀ e ∈ eqs, ∀ f ∈ e.2, f.2 ∈ us ∧ f.1 ^ q.toNat % p = 1) (l1 : us.length ≤ ts.length) (l2 : us.length ≤ vs.length) (he : ∀ e ∈ eqs, e.1 = side p q us vs e) :
    firsts p q us eqs c (dueR q c ts vs) = sides p q us eqs ts := by
  unfold firsts sides
  refine List.map_congr_left fun e h => ?_
  have bd := side_bd (q := q) hp us (dueR q c ts vs) e
  have bt := side_bd (q := q) hp us ts e
  rw [fit1 q1 hp bd.1 bd.2, side_due (by omega) hp (hf e h) l1 l2, he e h, mul_emod_l, Int.mul_assoc, ← mul_emod_r, rz_neg (by omega) hp (side_root hp fun f hf' => (hf e h f hf').2), Int.mul_one]
  exact Int.emod_eq_of_lt bt.1 bt.2
/-! inverses modulo q -/
set_option maxRecDepth 100000 in
theorem tab_inv : ∀ x ∈ tabN, ∀ r < x.2, 1 ≤ r → r ^ (x.2 - 2) % x.2 * r % x.2 = 1 := by decide +kernel
theorem inv_q {p q d : Int} (h : (p, q) ∈ tab) (hd : d % q ≠ 0) : (d ^ (q - 2).toNat % q) * d % q = 1 := by
  unfold tab at h
  obtain ⟨⟨a, b⟩, hm, e⟩ := List.mem_map.mp h
  obtain ⟨rfl, rfl⟩ := Prod.mk.inj e
  have row := row_of (show ((a : Int), (b : Int)) ∈ tab from List.mem_map.mpr ⟨(a, b), hm, rfl⟩)
  have q3 : (3 : Int) ≤ (b : Int) := row.q3
  have hd : d % (b : Int) ≠ 0 := hd
  have bd : 0 ≤ d % (b : Int) ∧ d % (b : Int) < b := emod_bd (by omega)
  obtain ⟨r, hr⟩ : ∃ r : Nat, d % (b : Int) = r := ⟨(d % b).toNat, by omega⟩
  have t := tab_inv _ hm r (by omega) (by omega)
  rw [show (((b : Nat) : Int) - 2).toNat = b - 2 by omega, ← pow_emod, ← mul_emod_r, hr]
  have : ((r ^ (b - 2) % b * r % b : Nat) : Int) = 1 := by
    rw [t]
    rfl
  rw [Int.natCast_emod, Int.natCast_mul, Int.natCast_emod, Int.natCast_pow] at this
  exact this
theorem ext_val {p q c d t v : Int} (h : (p, q) ∈ tab) (hcd : (c - d) % q ≠ 0) (v0 : 0 ≤ v) (v1 : v < q) : ((t + c * v) % q - (t + d * v) % q) * ((c - d) ^ (q - 2).toNat % q) % q = v := by
  have iv := inv_q h hcd
  generalize (c - d) ^ (q - 2).toNat % q = f at iv ⊢
  rw [Int.mul_emod, ← Int.sub_emod, ← Int.mul_emod, show t + c * v - (t + d * v) = (c - d) * v by rw [Int.sub_mul]; omega, show (c - d) * v * f = f * (c - d) * v by ac_rfl, ← mul_emod_l, iv, Int.one_mul]
  exact Int.emod_eq_of_lt v0 v1
theorem zw_ext {f g h : Int → Int → Int} : ∀ {ts vs : List Int}, ts.length = vs.length → (∀ t, ∀ v ∈ vs, f (g t v) (h t v) = v) → List.zipWith f (List.zipWith g ts vs) (List.zipWith h ts vs) = vs
  | [], [], _, _ => rfl
  | [], _ :: _, e, _ => by simp at e
  | _ :: _, [], e, _ => by simp at e
  | t :: ts, v :: vs, e, k => by
    rw [List.zipWith_cons_cons, List.zipWith_cons_cons, List.zipWith_cons_cons, k t v List.mem_cons_self, zw_ext (by simpa using e) fun t w hw => k t w (List.mem_cons_of_mem _ hw)]
/-! a law's group -/
theorem GG.okk {p q v l : Int} {bs : List Int} (g : GG p q bs (2 + v) l) (h0 : 0 ≤ v := by omega) (h1 : v ≤ 10 := by omega) : GOk p q bs := by
  have row := row_of g.tb
  have ln := g.ln
  refine ⟨row.p3, row.pm, row.pp, row.qp, row.dv, by omega, by omega, fun b hb => ?_, g.nd⟩
  obtain ⟨e, e1, e2, rfl⟩ := g.po b hb
  exact root_el row e1 e2
theorem GG.gb {p q v l : Int} {bs : List Int} (g : GG p q bs (2 + v) l) (h0 : 0 ≤ v := by omega) (h1 : v ≤ 10 := by omega) : GB p q bs := by
  have row := row_of g.tb
  have ln := g.ln
  have ok := g.okk h0 h1
  exact ⟨row.p3, row.pm, row.q3, row.qm, by omega, by omega, fun b hb => by
    obtain ⟨_, h1, h2, h3⟩ := ok.el b hb
    exact ⟨by omega, h2, h3⟩⟩

/-! ### what _law_same is asked of -/
theorem same_ok {a d : Dat} {A B : Prop} {n : Nat} (hx : plD a = true) (hy : okS n d) (e : a = d) (h : B) : aspSame (n + 1) [a, d] fun x => bQ x fun b => two (!b) A B := ⟨a, d, rfl, hx, hy, fun b hb => by
  have := hb.mpr e
  subst this
  exact h⟩
theorem same_end {a d : Dat} {P : Dat → Prop} {n : Nat} (hx : plD a = true) (hy : okS n d) (e : a = d) (h : P (.bl true)) : aspSame (n + 1) [a, d] P := ⟨a, d, rfl, hx, hy, fun b hb => by
  have := hb.mpr e
  subst this
  exact h⟩
theorem okS_tup {n : Nat} {xs : List Dat} (l : xs.length ≤ 1000000) (h : ∀ x ∈ xs, okS n x) : okS (n + 1) (.tup xs) := ⟨l, h⟩
theorem okS_lst {n : Nat} {xs : List Dat} (l : xs.length ≤ 1000000) (h : ∀ x ∈ xs, okS n x) : okS (n + 1) (.lst xs) := ⟨l, h⟩
theorem okS_int (n : Nat) (i : Int) : okS n (.int i) := by cases n <;> trivial
theorem okS_str (n : Nat) (i : Str) : okS n (.str i) := by cases n <;> trivial
theorem okS_bl (n : Nat) (b : Bool) : okS n (.bl b) := by cases n <;> trivial
theorem okS_non (n : Nat) : okS n .non := by cases n <;> trivial
theorem okS_map {α : Type} {f : α → Dat} {n : Nat} {xs : List α} (h : ∀ x ∈ xs, okS n (f x)) : ∀ d ∈ xs.map f, okS n d := fun d hd => by
  obtain ⟨x, hx, rfl⟩ := List.mem_map.mp hd
  exact h x hx
theorem okS_two {a b : Dat} {n : Nat} (h1 : okS n a) (h2 : okS n b) : ∀ d ∈ [a, b], okS n d := fun d hd => by
  rcases List.mem_cons.mp hd with rfl | hd
  · exact h1
  · rw [List.mem_singleton.mp hd]
    exact h2
theorem okS_strs (n : Nat) {us : List Str} (l : us.length ≤ 1000000) : okS (n + 1) (.tup (us.map .str)) := okS_tup (by rw [List.length_map]; exact l) (okS_map fun _ _ => okS_str _ _)
theorem okS_ints (n : Nat) {us : List Int} (l : us.length ≤ 1000000) : okS (n + 1) (.tup (us.map .int)) := okS_tup (by rw [List.length_map]; exact l) (okS_map fun _ _ => okS_int _ _)
theorem okS_eqD (n : Nat) {e : Eqn} (l : e.2.length ≤ 1000000) : okS (n + 3) (eqD e) := okS_tup (Nat.le_of_ble_eq_true rfl) (okS_two (okS_int _ _) (okS_tup (by rw [List.length_map]; exact l) (okS_map fun _ _ => okS_tup (Nat.le_of_ble_eq_true rfl) (okS_two (okS_int _ _) (okS_str _ _)))))
theorem okS_eqs (n : Nat) {us : List Str} {eqs : List Eqn} (h : StOk us eqs) : okS (n + 4) (.tup (eqs.map eqD)) := okS_tup (by rw [List.length_map]; have := h.le; omega) (okS_map fun e he => okS_eqD n (by have := h.lf e he; omega))
theorem plAll_map {α : Type} {f : α → Dat} {xs : List α} (h : ∀ x ∈ xs, plD (f x) = true) : plAll (xs.map f) = true := plAll_of fun d hd => by
  obtain ⟨x, hx, rfl⟩ := List.mem_map.mp hd
  exact h x hx
theorem plD_two {a b : Dat} (h1 : plD a = true) (h2 : plD b = true) : plD (.tup [a, b]) = true := by
  show (plD a && (plD b && true)) = true
  rw [h1, h2]
  rfl
theorem plD_eqD (e : Eqn) : plD (eqD e) = true := plD_two rfl (plAll_map fun _ _ => rfl)
theorem pl_strs (us : List Str) : plD (.tup (us.map .str)) = true := plAll_map fun _ _ => rfl
theorem pl_ints (us : List Int) : plD (.tup (us.map .int)) = true := plAll_map fun _ _ => rfl
theorem pl_eqs (eqs : List Eqn) : plD (.tup (eqs.map eqD)) = true := plAll_map fun e _ => plD_eqD e
/-- == of two statements -/
theorem eq_st {us vs : List Str} {eqs fqs : List Eqn} {P : Dat → Prop} (h1 : StOk us eqs) (h2 : StOk vs fqs) (h : ∀ b : Bool, (b = true ↔ us = vs ∧ eqs = fqs) → P (.bl b)) : kEqO 1 aspStEq (.obj 1 [.tup (us.map .str), .tup (eqs.map eqD)]) (.obj 1 [.tup (vs.map .str), .tup (fqs.map eqD)]) P :=
  ⟨⟨rfl, rfl⟩, us, vs, eqs, fqs, rfl, h1, h2, fun b hb => ⟨b, rfl, h b hb⟩⟩
theorem eq_stD {us vs : List Str} {eqs fqs : List Eqn} {P : Dat → Prop} {n : Bool} (h1 : StOk us eqs) (h2 : StOk vs fqs) (h : ∀ b : Bool, (b = true ↔ us = vs ∧ eqs = fqs) → P (.bl (if n then !b else b))) : kEqD n (.tup [.tup (us.map .str), .tup (eqs.map eqD)]) (.tup [.tup (vs.map .str), .tup (fqs.map eqD)]) P := by
  have ok : ∀ {us : List Str} {eqs : List Eqn}, StOk us eqs → okE 64 (.tup [.tup (us.map .str), .tup (eqs.map eqD)]) := fun {us eqs} h1 =>
    (okE_tup (n := 4) (okE_two ((okE_tup (n := 0) (okE_maps fun u hu => okE_str (h1.so u hu) 0)).up (Nat.le_of_ble_eq_true rfl)) ((okE_tup (n := 3) (okE_maps (okE_eqD h1))).up (Nat.le_of_ble_eq_true rfl)))).up (Nat.le_of_ble_eq_true rfl)
  refine ⟨ok h1, ok h2, fun b hb => h b ?_⟩
  rw [hb]
  simp only [Dat.tup.injEq, List.cons.injEq, and_true]
  exact ⟨fun z => ⟨strs_inj z.1, map_inj (fun _ _ => eqD_inj) z.2⟩, fun z => by rw [z.1, z.2]; exact ⟨rfl, rfl⟩⟩
theorem bl_iff {b c : Bool} {p : Prop} (h1 : b = true ↔ p) (h2 : c = true ↔ p) : b = c := by
  cases b <;> cases c
  · rfl
  · exact absurd (h1.mpr (h2.mp rfl)) (by decide)
  · exact absurd (h2.mpr (h1.mp rfl)) (by decide)
  · rfl
theorem bl_false {b : Bool} {p : Prop} (h1 : b = true ↔ p) (h2 : ¬ p) : b = false := Bool.eq_false_iff.mpr fun z => h2 (h1.mp z)
/-- equations with other elements -/
theorem fls_so {p q b0 : Int} {us : List Str} {eqs eqs' : List Eqn} (h : StOk us eqs) (pr : Paired (Fls p q b0) eqs eqs') : StOk us eqs' := by
  have fs : ∀ e' ∈ eqs', ∃ e ∈ eqs, e'.2 = e.2 := fun e' he => by
    obtain ⟨e, h1, h2⟩ := paired_mem pr e' he
    exact ⟨e, h1, h2.1⟩
  refine ⟨h.nd, h.lu, by rw [paired_len pr]; exact h.le, fun e he => ?_, fun e he f hf => ?_, h.so⟩
  · obtain ⟨e0, h1, h2⟩ := fs e he
    rw [h2]
    exact h.lf e0 h1
  · obtain ⟨e0, h1, h2⟩ := fs e he
    rw [h2] at hf
    exact h.fu e0 h1 f hf
theorem fls_sides {p q b0 : Int} {us : List Str} {xs : List Int} : ∀ {eqs eqs' : List Eqn}, Paired (Fls p q b0) eqs eqs' → sides p q us eqs' xs = sides p q us eqs xs
  | _, _, .nil => rfl
  | _, _, .cons (a := e) (b := e') r t => by
    show side p q us xs e' :: sides p q us _ xs = side p q us xs e :: sides p q us _ xs
    rw [fls_sides t]
    unfold side
    rw [r.1]
theorem fls_eq {p q b0 : Int} : ∀ {eqs eqs' : List Eqn}, Paired (Fls p q b0) eqs eqs' → eqs'.map (·.1) = eqs.map (·.1) → eqs' = eqs
  | _, _, .nil, _ => rfl
  | _, _, .cons (a := e) (b := e') r t, h => by
    rw [List.map_cons, List.map_cons, List.cons.injEq] at h
    rw [fls_eq t h.2]
    congr 1
    exact Prod.ext h.1 r.1
theorem atI_last {α : Type} {xs : List α} {x : α} : atI (xs ++ [x]) (-1) = some x := by
  unfold atI ixN
  rw [if_neg (by decide), if_pos (by rw [List.length_append, List.length_singleton]; omega)]
  show (xs ++ [x])[((-1 : Int) + ((xs ++ [x]).length : Nat)).toNat]? = some x
  rw [List.length_append, List.length_singleton, show ((-1 : Int) + ((xs.length + 1 : Nat) : Int)).toNat = xs.length by omega, List.getElem?_append_right (Nat.le_refl _), Nat.sub_self]
  rfl
theorem range_zip {f : Int → Int → Int} {n : Nat} {ts vs : List Int} (h1 : ts.length = n) (h2 : vs.length = n) : (List.range n).map (fun i => f (ts.getD i 0) (vs.getD i 0)) = List.zipWith f ts vs := by
  refine List.ext_getElem? fun i => ?_
  rw [List.getElem?_map, List.getElem?_zipWith]
  by_cases h : i < n
  · rw [List.getElem?_eq_getElem (show i < (List.range n).length by rw [List.length_range]; exact h), List.getElem_range, List.getElem?_eq_getElem (show i < ts.length by omega), List.getElem?_eq_getElem (show i < vs.length by omega)]
    show some (f (ts.getD i 0) (vs.getD i 0)) = some _
    rw [List.getD_eq_getElem?_getD, List.getD_eq_getElem?_getD, List.getElem?_eq_getElem (show i < ts.length by omega), List.getElem?_eq_getElem (show i < vs.length by omega)]
    rfl
  · rw [List.getElem?_eq_none (by rw [List.length_range]; omega), List.getElem?_eq_none (show ts.length ≤ i by omega)]
    rfl
theorem getD_at {xs : List Int} {i : Nat} (h : i < xs.length) : xs[i]? = some (xs.getD i 0) := by
  rw [List.getD_eq_getElem?_getD, List.getElem?_eq_getElem h]
  rfl
theorem nms_more : ∀ n < 4, ((nms n).reverse = nms n ↔ n < 2) ∧ ("zz" : Str) ∉ nms n := by decide +kernel
theorem zz_ok : PyData.strOk ("zz" : Str) = true := by decide +kernel

/-! ### displays with a star, slices of a list or a tuple -/
theorem kstar {X : Cx} {K : PySem.W.Frag} (hK : X.K = K) {e : Expr} {es : List Expr} {p : Pos} {te : TE} {t : TA} (he : PE X e te) (hr : PA X es t) (hs : starEach (.Starred e p :: es) X.env = (true, eval e X.env) :: starEach es X.env := by rfl) : PA X (.Starred e p :: es) (StX.tStar K te t) := by
  subst hK
  exact StX.pa_star he hr hs
/-- arguments, as many as there are -/
structure AArs (W : Wd) (H0 : Hp) (ta : TA) (aa : AFr) : Prop where
  run : ∀ (σ : L2.St) (env : List Sl) (F : Addr → Prop) (H : Hp) (Q : List V → Hp → Prop) (P : List Dat → Prop), Okk W F H → Mt W H0 F H σ env → aa env P →
    (∀ ds F' H' vs, P ds → Ext W F H F' H' → RvAll W F' H' vs ds → Q vs H') → ta σ H Q
def aStar (ea : AEx) (er : AFr) : AFr := fun env P => ea env fun x => sQ x fun xs => er env fun ys => P (xs ++ ys)
def aSz (aa : AFr) : AFr := fun env P => aa env fun ds => ds.length ≤ 100000 ∧ P ds
section
variable {W : Wd} {H0 : Hp} {te ta tb : TE} {ae ea eb : AEx}
theorem a_nilS : AArs W H0 tNil aNil := ⟨fun _ _ F H _ _ ok _ h k => k [] F H [] h (.refl ok) .nil⟩
theorem a_consS {tr : TA} {er : AFr} (ha : AExp W H0 ta ea) (hr : AArs W H0 tr er) : AArs W H0 (tCons ta tr) (aCons ea er) :=
  ⟨fun σ env F H Q P ok m q k => ha.run σ env F H _ _ ok m q fun d F1 H1 v p1 x1 r1 => hr.run σ env F1 H1 _ _ x1.ok (m.ext ok x1) p1 fun ds F2 H2 vs p2 x2 r2 =>
    k (d :: ds) F2 H2 (v :: vs) p2 (x1.trans ok x2) (.cons (r1.sub (x2.sub x1.ok)) r2)⟩
theorem a_starS {tr : TA} {er : AFr} (ha : AEg Pk W H0 ta ea) (hr : AArs W H0 tr er) : AArs W H0 (StX.tStar W.K ta tr) (aStar ea er) :=
  ⟨fun σ env F H Q P ok m q k => ha.run σ env F H _ _ ok m q fun d F1 H1 v p1 x1 r1 => by
    obtain ⟨a, vs, xs, rfl, h, rr, p, _⟩ := r1.seq x1.ok p1
    refine ⟨a, vs, rfl, h.symm, hr.run σ env F1 H1 _ _ x1.ok (m.ext ok x1) p fun ds F2 H2 ws p2 x2 r2 => ?_⟩
    exact k (xs ++ ds) F2 H2 (vs ++ ws) p2 (x1.trans ok x2) ((rr.sub (x2.sub x1.ok)).append r2)⟩
theorem a_lstS {tr : TA} {aa : AFr} (h : AArs W H0 tr aa) : AFrs W H0 (tLst tr) (aSz aa) :=
  ⟨fun σ env F H Q P ok m q k => h.run σ env F H _ _ ok m q fun ds F1 H1 vs p1 x1 r1 => ⟨Nat.le_of_lt (len_size (by rw [r1.length]; exact p1.1)), fun a n => by
    have x2 : Ext W F1 H1 _ _ := Ext.lay (o := .lst vs) x1.ok n
    exact k ds _ _ a vs p1.2 (x1.trans ok x2) (x1.there ok n) (fun f => x1.ok.tr a f n) upd_same (r1.sub (x2.sub x1.ok))⟩⟩
theorem a_tupS {tr : TA} {aa : AFr} (h : AArs W H0 tr aa) : AExp W H0 (tTupF tr) (aTup (aSz aa)) :=
  ⟨fun σ env F H Q P ok m q k => h.run σ env F H _ _ ok m q fun ds F1 H1 vs p1 x1 r1 => ⟨Nat.le_of_lt (len_size (by rw [r1.length]; exact p1.1)), fun a o n tp => by
    have x2 : Ext W F1 H1 _ _ := Ext.new (o := o) x1.ok n
    exact k (.tup ds) _ _ _ p1.2 (x1.trans ok x2) (.tup ⟨.inr rfl, o, upd_same, tp⟩ (r1.sub (x2.sub x1.ok)))⟩⟩
/-- a slice of a list or of a tuple, by its kind -/
def rSlB (k : Bool) (K : PySem.W.Frag) : V → Option Int → Option Int → Hp → VK → Prop := match k with
  | true => rSlF K
  | false => rSlL K
theorem kslB (k : Bool) {X : Cx} {K : PySem.W.Frag} (hK : X.K = K) : SlR X (rSlB k K) := by
  cases k with
  | true => exact kslF hK
  | false => exact ksll hK
def aSlB (k : Bool) (ea : AEx) (al ah : AOp) : AEx := match k with
  | true => aSlT ea al ah
  | false => aFz (aSlF ea al ah)
theorem a_slB {k : Bool} {tl th : TO} {al ah : AOp} (ha : AExp W H0 te ea) (hl : AOpt W H0 tl al) (hh : AOpt W H0 th ah) : AExp W H0 (tSl (rSlB k W.K) te tl th) (aSlB k ea al ah) := by
  cases k with
  | true => exact a_slT ha hl hh
  | false => exact a_fz (a_slL (a_pk ha) hl hh)
theorem aSlB_eq {k : Bool} {al ah : AOp} {env : List Sl} {P : Dat → Prop} (h : ea env fun x => al env fun lo => ah env fun hi => kQ k x fun xs => P (sqD k (cutD xs lo hi))) : aSlB k ea al ah env P := by
  cases k with
  | true => exact h
  | false => exact h
end

/-! ### claims: what they are, and as data -/
structure Stm where
  us : List Str
  eqs : List Eqn
/-- claims, so many levels deep at most; witnesses, tapes, first moves, replies of them -/
def Cl : Nat → Type
  | 0 => Empty
  | n + 1 => Stm × List (List (Cl n))
def Wt : Nat → Type
  | 0 => Empty
  | n + 1 => List Int × List (Nat × Wt n)
def Tp : Nat → Type
  | 0 => Empty
  | n + 1 => List Int × List (List Int × List (Tp n))
def Mv : Nat → Type
  | 0 => Empty
  | n + 1 => List Int × List (List (Mv n))
def Ry : Nat → Type
  | 0 => Empty
  | n + 1 => List Int × List (List (Int × Ry n))
def tupM {α : Type} (f : α → Dat) (xs : List α) : Dat := .tup (xs.map f)
def clO : (n : Nat) → Cl n → Dat
  | 0, c => Empty.elim c
  | n + 1, (s, chs) => .obj 2 [stO s.us s.eqs, tupM (tupM (clO n)) chs]
def clL : (n : Nat) → Cl n → Dat
  | 0, c => Empty.elim c
  | n + 1, (s, chs) => .tup [stL s.us s.eqs, tupM (tupM (clL n)) chs]
def pkD {n : Nat} (f : Wt n → Dat) (x : Nat × Wt n) : Dat := .tup [.int (x.1 : Nat), f x.2]
def wtD : (n : Nat) → Wt n → Dat
  | 0, c => Empty.elim c
  | n + 1, (vs, ps) => .tup [tupM .int vs, tupM (pkD (wtD n)) ps]
def ptD {n : Nat} (f : Tp n → Dat) (x : List Int × List (Tp n)) : Dat := .tup [tupM .int x.1, tupM f x.2]
def tpD : (n : Nat) → Tp n → Dat
  | 0, c => Empty.elim c
  | n + 1, (own, ps) => .tup [tupM .int own, tupM (ptD (tpD n)) ps]
def mvD : (n : Nat) → Mv n → Dat
  | 0, c => Empty.elim c
  | n + 1, (ms, ps) => .tup [tupM .int ms, tupM (tupM (mvD n)) ps]
def rpD {n : Nat} (f : Ry n → Dat) (x : Int × Ry n) : Dat := .tup [.int x.1, f x.2]
def ryD : (n : Nat) → Ry n → Dat
  | 0, c => Empty.elim c
  | n + 1, (rs, ps) => .tup [tupM .int rs, tupM (tupM (rpD (ryD n))) ps]
section
variable {n : Nat}
theorem clO_s (s : Stm) (chs : List (List (Cl n))) : clO (n + 1) (s, chs) = .obj 2 [stO s.us s.eqs, tupM (tupM (clO n)) chs] := rfl
theorem clL_s (s : Stm) (chs : List (List (Cl n))) : clL (n + 1) (s, chs) = .tup [stL s.us s.eqs, tupM (tupM (clL n)) chs] := rfl
theorem wtD_s (vs : List Int) (ps : List (Nat × Wt n)) : wtD (n + 1) (vs, ps) = .tup [tupM .int vs, tupM (pkD (wtD n)) ps] := rfl
theorem tpD_s (vs : List Int) (ps : List (List Int × List (Tp n))) : tpD (n + 1) (vs, ps) = .tup [tupM .int vs, tupM (ptD (tpD n)) ps] := rfl
theorem mvD_s (ms : List Int) (ps : List (List (Mv n))) : mvD (n + 1) (ms, ps) = .tup [tupM .int ms, tupM (tupM (mvD n)) ps] := rfl
theorem ryD_s (rs : List Int) (ps : List (List (Int × Ry n))) : ryD (n + 1) (rs, ps) = .tup [tupM .int rs, tupM (tupM (rpD (ryD n))) ps] := rfl
end
/-- claims that the program takes -/
def ClOk : (n : Nat) → Cl n → Prop
  | 0, _ => False
  | n + 1, (s, chs) => StOk s.us s.eqs ∧ chs.length ≤ 100 ∧ ∀ bs ∈ chs, 0 < bs.length ∧ bs.length ≤ 100 ∧ ∀ b ∈ bs, ClOk n b
/-- the bases are elements -/
def ClRt (p q : Int) : (n : Nat) → Cl n → Prop
  | 0, _ => False
  | n + 1, (s, chs) => (∀ e ∈ s.eqs, ∀ f ∈ e.2, f.1 ^ q.toNat % p = 1) ∧ ∀ bs ∈ chs, ∀ b ∈ bs, ClRt p q n b
/-- what satisfies a claim -/
def SatC (p q : Int) : (n : Nat) → Cl n → Wt n → Prop
  | 0, _, _ => False
  | n + 1, (s, chs), (vs, ps) => vs.length = s.us.length ∧ sides p q s.us s.eqs vs = s.eqs.map (·.1) ∧ ps.length = chs.length ∧ ∀ x ∈ chs.zip ps, ∃ b, x.1[x.2.1]? = some b ∧ SatC p q n b x.2.2
/-- a witness of the form of a claim -/
def WtFit : (n : Nat) → Cl n → Wt n → Prop
  | 0, _, _ => False
  | n + 1, (s, chs), (vs, ps) => vs.length = s.us.length ∧ ps.length = chs.length ∧ ∀ x ∈ chs.zip ps, ∃ b, x.1[x.2.1]? = some b ∧ WtFit n b x.2.2
/-- its values lie below q -/
def WtRng (q : Int) : (n : Nat) → Wt n → Prop
  | 0, _ => False
  | n + 1, (vs, ps) => (∀ v ∈ vs, 0 ≤ v ∧ v < q) ∧ ∀ x ∈ ps, WtRng q n x.2
def TpFit : (n : Nat) → Cl n → Tp n → Prop
  | 0, _, _ => False
  | n + 1, (s, chs), (own, ps) => own.length = s.us.length ∧ ps.length = chs.length ∧ ∀ x ∈ chs.zip ps, x.2.1.length + 1 = x.1.length ∧ x.2.2.length = x.1.length ∧ ∀ y ∈ x.1.zip x.2.2, TpFit n y.1 y.2
def TpRng (q : Int) : (n : Nat) → Tp n → Prop
  | 0, _ => False
  | n + 1, (own, ps) => (∀ v ∈ own, 0 ≤ v ∧ v < q) ∧ ∀ x ∈ ps, (∀ v ∈ x.1, 0 ≤ v ∧ v < q) ∧ ∀ t ∈ x.2, TpRng q n t
/-! sizes, tapes of numbers -/
def chSz {n : Nat} (f : Cl n → Nat) (bs : List (Cl n)) : Nat := (bs.length - 1) + (bs.map f).sum
def szC : (n : Nat) → Cl n → Nat
  | 0, _ => 0
  | n + 1, (s, chs) => s.us.length + (chs.map (chSz (szC n))).sum
def tpBs {n : Nat} (sz : Cl n → Nat) (f : Cl n → List Int → Tp n) : List (Cl n) → List Int → List (Tp n)
  | [], _ => []
  | b :: bs, ns => f b (ns.take (sz b)) :: tpBs sz f bs (ns.drop (sz b))
def tpCh {n : Nat} (sz : Cl n → Nat) (f : Cl n → List Int → Tp n) (bs : List (Cl n)) (ns : List Int) : List Int × List (Tp n) := (ns.take (bs.length - 1), tpBs sz f bs (ns.drop (bs.length - 1)))
def tpChs {n : Nat} (sz : Cl n → Nat) (f : Cl n → List Int → Tp n) : List (List (Cl n)) → List Int → List (List Int × List (Tp n))
  | [], _ => []
  | bs :: chs, ns => tpCh sz f bs (ns.take (chSz sz bs)) :: tpChs sz f chs (ns.drop (chSz sz bs))
def tpC : (n : Nat) → Cl n → List Int → Tp n
  | 0, c, _ => Empty.elim c
  | n + 1, (s, chs), ns => (ns.take s.us.length, tpChs (szC n) (tpC n) chs (ns.drop s.us.length))
/-! playing -/
def insAt (i : Nat) (x : Int) (xs : List Int) : List Int := xs.take i ++ x :: xs.drop i
/-- the challenges of a choice -/
def chas (q c : Int) (i : Nat) (sh : List Int) : List Int := insAt i ((c - sh.sum) % q) sh
def fstR {n : Nat} (l : List (Int × (Mv n × Ry n))) : List (Mv n) := l.map fun x => x.2.1
def sndR {n : Nat} (l : List (Int × (Mv n × Ry n))) : List (Int × Ry n) := l.map fun x => (x.1, x.2.2)
def simCh {n : Nat} (q : Int) (f : Cl n → Int → Tp n → Mv n × Ry n) (c : Int) (bs : List (Cl n)) (pt : List Int × List (Tp n)) : List (Int × (Mv n × Ry n)) :=
  (bs.zip ((chas q c (bs.length - 1) pt.1).zip pt.2)).map fun x => (x.2.1, f x.1 x.2.1 x.2.2)
def simC (p q : Int) : (n : Nat) → Cl n → Int → Tp n → Mv n × Ry n
  | 0, c, _, _ => Empty.elim c
  | n + 1, (s, chs), c, (own, ps) =>
    let rs := (chs.zip ps).map fun x => simCh q (simC p q n) c x.1 x.2
    ((firsts p q s.us s.eqs c own, rs.map fstR), (own, rs.map sndR))
def plyCh {n : Nat} (q : Int) (f : Cl n → Wt n → Tp n → Int → Mv n × Ry n) (g : Cl n → Int → Tp n → Mv n × Ry n) (c : Int) (bs : List (Cl n)) (pk : Nat × Wt n) (pt : List Int × List (Tp n)) : List (Int × (Mv n × Ry n)) :=
  (bs.zip ((chas q c pk.1 pt.1).zip pt.2)).mapIdx fun k x => (x.2.1, if k = pk.1 then f x.1 pk.2 x.2.2 x.2.1 else g x.1 x.2.1 x.2.2)
def plyC (p q : Int) : (n : Nat) → Cl n → Wt n → Tp n → Int → Mv n × Ry n
  | 0, c, _, _, _ => Empty.elim c
  | n + 1, (s, chs), (vs, pks), (own, ps), c =>
    let rs := (chs.zip (pks.zip ps)).map fun x => plyCh q (plyC p q n) (simC p q n) c x.1 x.2.1 x.2.2
    ((firsts p q s.us s.eqs c (dueR q c own vs), rs.map fstR), (dueR q c own vs, rs.map sndR))
/-- the first move, played ahead of the challenge -/
def fstCh {n : Nat} (q : Int) (f : Cl n → Wt n → Tp n → Mv n) (g : Cl n → Int → Tp n → Mv n × Ry n) (bs : List (Cl n)) (pk : Nat × Wt n) (pt : List Int × List (Tp n)) : List (Mv n) :=
  (bs.zip ((chas q 0 pk.1 pt.1).zip pt.2)).mapIdx fun k x => if k = pk.1 then f x.1 pk.2 x.2.2 else (g x.1 x.2.1 x.2.2).1
def fstC (p q : Int) : (n : Nat) → Cl n → Wt n → Tp n → Mv n
  | 0, c, _, _ => Empty.elim c
  | n + 1, (s, chs), (_, pks), (own, ps) => (firsts p q s.us s.eqs 0 own, (chs.zip (pks.zip ps)).map fun x => fstCh q (fstC p q n) (simC p q n) x.1 x.2.1 x.2.2)
/-- what fits -/
def FitsC (p q : Int) : (n : Nat) → Cl n → Mv n → Int → Ry n → Prop
  | 0, _, _, _, _ => False
  | n + 1, (s, chs), (ms, mvs), c, (rs, ans) => rs.length = s.us.length ∧ mvs.length = chs.length ∧ ans.length = chs.length ∧ (0 ≤ c ∧ c < q) ∧ (∀ r ∈ rs, 0 ≤ r ∧ r < q) ∧ firsts p q s.us s.eqs c rs = ms ∧
    ∀ x ∈ chs.zip (mvs.zip ans), x.2.1.length = x.1.length ∧ x.2.2.length = x.1.length ∧ (x.2.2.map (·.1)).sum % q = c ∧ ∀ y ∈ x.1.zip (x.2.1.zip x.2.2), FitsC p q n y.1 y.2.1 y.2.2.1 y.2.2.2
/-- lists that are not too long -/
def MvB : (n : Nat) → Mv n → Prop
  | 0, _ => False
  | n + 1, (ms, mvs) => ms.length ≤ 1000 ∧ mvs.length ≤ 1000 ∧ ∀ l ∈ mvs, l.length ≤ 1000 ∧ ∀ m ∈ l, MvB n m
def RyB : (n : Nat) → Ry n → Prop
  | 0, _ => False
  | n + 1, (rs, ans) => rs.length ≤ 1000 ∧ ans.length ≤ 1000 ∧ ∀ l ∈ ans, l.length ≤ 1000 ∧ ∀ x ∈ l, RyB n x.2
/-! ### walking over what is left -/
theorem forA_suf {α : Type} {f : α → Dat} {g : ATg} {b : ASt} {D : AEnds} (W : List α → List Sl → Prop) (hs : ∀ x xs env, W (x :: xs) env → ∀ N : List Sl → Prop, (∀ env', W xs env' → N env') → g (f x) env fun env2 => b { D with nx := N, ct := N, bk := D.nx } env2)
    (hd : ∀ env, W [] env → D.nx env) : ∀ xs env, W xs env → forA g b D (xs.map f) env
  | [], env, h => hd env h
  | x :: xs, env, h => hs x xs env h (forA g b D (xs.map f)) fun env' w => forA_suf W hs hd xs env' w
theorem enumD_map {α : Type} (f : α → Dat) : ∀ (xs : List α) (n : Nat), enumD n (xs.map f) = (xs.zipIdx n).map fun x => .tup [.int (x.2 : Nat), f x.1]
  | [], _ => rfl
  | x :: xs, n => congrArg (_ :: ·) (enumD_map f xs (n + 1))
theorem zip3D_map {α β γ : Type} (f : α → Dat) (g : β → Dat) (h : γ → Dat) : ∀ (xs : List α) (ys : List β) (zs : List γ), zip3D (xs.map f) (ys.map g) (zs.map h) = (xs.zip (ys.zip zs)).map fun x => .tup [f x.1, g x.2.1, h x.2.2]
  | [], _, _ => rfl
  | _ :: _, [], _ => rfl
  | _ :: _, _ :: _, [] => rfl
  | x :: xs, y :: ys, z :: zs => congrArg (_ :: ·) (zip3D_map f g h xs ys zs)
theorem natsum : ∀ l : List Nat, ((l.map fun (x : Nat) => (x : Int)).sum) = ((l.sum : Nat) : Int)
  | [] => rfl
  | x :: l => by
    rw [List.map_cons, List.sum_cons, List.sum_cons, natsum l]
    omega
theorem cut_nat {xs : List Dat} {a b : Nat} (h : a ≤ b) : cutD xs (some (a : Int)) (some (b : Int)) = (xs.drop a).take (b - a) := by
  unfold cutD
  rw [show HT.sIx xs.length 0 (some (a : Int)) = min a xs.length from HT.sIx_nat _ _ _, show HT.sIx xs.length xs.length (some (b : Int)) = min b xs.length from HT.sIx_nat _ _ _]
  by_cases ha : a ≤ xs.length
  · rw [Nat.min_eq_left ha]
    by_cases hb : b ≤ xs.length
    · rw [Nat.min_eq_left hb]
    · rw [Nat.min_eq_right (by omega), List.take_of_length_le (by rw [List.length_drop]; omega), List.take_of_length_le (by rw [List.length_drop]; omega)]
  · rw [Nat.min_eq_right (by omega), Nat.min_eq_right (by omega), List.drop_eq_nil_of_le (by omega), List.drop_eq_nil_of_le (by omega)]
    simp
theorem cut_to {xs : List Dat} {b : Nat} : cutD xs none (some (b : Int)) = xs.take b := by
  have h := cut_nat (xs := xs) (a := 0) (b := b) (Nat.zero_le b)
  rw [List.drop_zero, Nat.sub_zero] at h
  rw [← h]
  unfold cutD
  rw [show HT.sIx xs.length 0 (some ((0 : Nat) : Int)) = 0 by rw [show HT.sIx xs.length 0 (some ((0 : Nat) : Int)) = min 0 xs.length from HT.sIx_nat _ _ _]; exact Nat.zero_min _]
  rfl
theorem cut_from {xs : List Dat} {a : Nat} : cutD xs (some (a : Int)) none = xs.drop a := by
  unfold cutD
  rw [show HT.sIx xs.length 0 (some (a : Int)) = min a xs.length from HT.sIx_nat _ _ _, show HT.sIx xs.length xs.length none = xs.length from rfl]
  by_cases ha : a ≤ xs.length
  · rw [Nat.min_eq_left ha, List.take_of_length_le (by rw [List.length_drop]; omega)]
  · rw [Nat.min_eq_right (by omega), List.drop_eq_nil_of_le (by omega), List.drop_eq_nil_of_le (by omega)]
    simp
theorem fn_vac {P : Program} {w : World} {K : PySem.W.Frag} {mg : Str → Option Value} {base : Heap} {CX : CXT} {k : Nat} {f : Addr} {fd : FuncData} {ps : List Str} {ca : Nat → Addr} {asp : ASp} (h : ∀ ds P, ¬ asp ds P) : FnOk P w K mg base CX k f fd ps (toSp K ca asp) :=
  ⟨fun _ _ _ _ ⟨_, _, _, _, _, _, a, _⟩ => (h _ _ a).elim, fun _ _ _ _ _ _ _ _ _ _ _ _ _ ⟨_, _, _, _, _, _, a, _⟩ => (h _ _ a).elim⟩
theorem snocM {α : Type} (f : α → Dat) (xs : List α) (x : α) : xs.map f ++ [f x] = (xs ++ [x]).map f := by
  rw [List.map_append]
  rfl
theorem snocF {α β : Type} (g : α → β) (f : β → Dat) (xs : List α) (x : α) : (xs.map g).map f ++ [f (g x)] = ((xs ++ [x]).map g).map f := by
  rw [List.map_append, List.map_append]
  rfl
theorem done_snoc {α : Type} {d : List α} {x : α} {r z : List α} (h : d ++ x :: r = z) : (d ++ [x]) ++ r = z := by
  rw [List.append_assoc]
  exact h
theorem done_nil {α : Type} {d z : List α} (h : d ++ [] = z) : d = z := by
  rw [List.append_nil] at h
  exact h
theorem done_mem {α : Type} {d : List α} {x : α} {r z : List α} (h : d ++ x :: r = z) : x ∈ z := by
  rw [← h]
  exact List.mem_append_right _ List.mem_cons_self
theorem done_len {α : Type} {d : List α} {x : α} {r z : List α} (h : d ++ x :: r = z) : d.length < z.length := by
  rw [← h, List.length_append, List.length_cons]
  omega
theorem done_at {α : Type} {d : List α} {x : α} {r z : List α} (h : d ++ x :: r = z) : z[d.length]? = some x := by
  rw [← h, List.getElem?_append_right (Nat.le_refl _), Nat.sub_self]
  rfl
/-- what comes after a statement, by a name: nothing looks into it -/
theorem seqG {a b : ASt} {D : AEnds} {env : List Sl} (h : ∀ N : List Sl → Prop, N = b D → a { D with nx := N } env) : sSeq a b D env := h _ rfl

/-! ### the sizes of tapes, tapes of numbers -/
structure CT (K : PySem.W.Frag) (C : Addr) : Prop where
  cl : Cls K C
  n_statement : NoAttr K C "statement"
  n_choices : NoAttr K C "choices"
section
variable {P : Program} {w : World} {K : PySem.W.Frag} {mg : Str → Option Value} {base : Heap} {ca : Nat → Addr}
def aspShares : ASp := fun ds P => ∃ xs : List Dat, ds = [.tup xs] ∧ P (.int ((xs.length - 1 : Nat) : Int))
def aspChSz (n : Nat) : ASp := fun ds P => ∃ bs : List (Cl n), ds = [tupM (clO n) bs] ∧ (bs.length ≤ 100 ∧ ∀ b ∈ bs, ClOk n b) ∧ P (.int ((chSz (szC n) bs : Nat) : Int))
def aspSz (n : Nat) : ASp := fun ds P => ∃ c : Cl n, ds = [clO n c] ∧ ClOk n c ∧ P (.int ((szC n c : Nat) : Int))
def aspChTpK (n : Nat) (k : Bool) : ASp := fun ds P => ∃ (bs : List (Cl n)) (ns : List Int), ds = [tupM (clO n) bs, sqD k (ns.map .int)] ∧ (bs.length ≤ 100 ∧ ∀ b ∈ bs, ClOk n b) ∧ P (ptD (tpD n) (tpCh (szC n) (tpC n) bs ns))
def aspChTp (n : Nat) : ASp := fun ds P => ∃ k, aspChTpK n k ds P
def aspTpK (n : Nat) (k : Bool) : ASp := fun ds P => ∃ (c : Cl n) (ns : List Int), ds = [clO n c, sqD k (ns.map .int)] ∧ ClOk n c ∧ P (tpD n (tpC n c ns))
def aspTp (n : Nat) : ASp := fun ds P => ∃ k, aspTpK n k ds P
theorem sq_cut {k : Bool} {xs : List Dat} {lo hi : Option Int} {P : Dat → Prop} (h : P (sqD k (cutD xs lo hi))) : kQ k (sqD k xs) fun xs => P (sqD k (cutD xs lo hi)) := kQ_sq h
end

/-! ### the program's simulating -/
section
variable {P : Program} {w : World} {K : PySem.W.Frag} {mg : Str → Option Value} {base : Heap} {ca : Nat → Addr}
def aspChas : ASp := fun ds P => ∃ (p q c : Int) (bs sh : List Int) (i : Nat), ds = [grpD p q bs, .int c, tupM .int sh, .int (i : Nat)] ∧ 0 < q ∧ sh.length ≤ 1000 ∧ P (.lst ((chas q c i sh).map .int))
def aspSimCh (n : Nat) : ASp := fun ds P => ∃ (p q c : Int) (gs : List Int) (bs : List (Cl n)) (pt : List Int × List (Tp n)), ds = [grpD p q gs, tupM (clO n) bs, .int c, ptD (tpD n) pt] ∧ (0 < q ∧ 1 < p ∧ p < 2147483648) ∧ (0 < bs.length ∧ bs.length ≤ 100 ∧ ∀ b ∈ bs, ClOk n b) ∧ (pt.1.length + 1 = bs.length ∧ pt.2.length = bs.length ∧ ∀ y ∈ bs.zip pt.2, TpFit n y.1 y.2) ∧
  P (.tup [tupM (mvD n) (fstR (simCh q (simC p q n) c bs pt)), tupM (rpD (ryD n)) (sndR (simCh q (simC p q n) c bs pt))])
def aspSimC (n : Nat) : ASp := fun ds P => ∃ (p q c : Int) (gs : List Int) (cl : Cl n) (t : Tp n), ds = [grpD p q gs, clO n cl, .int c, tpD n t] ∧ (0 < q ∧ 1 < p ∧ p < 2147483648) ∧ ClOk n cl ∧ TpFit n cl t ∧ P (.tup [mvD n (simC p q n cl c t).1, ryD n (simC p q n cl c t).2])
theorem zip_mem3 {α β γ : Type} : ∀ {xs : List α} {ys : List β} {zs : List γ} {x : α × β × γ}, x ∈ xs.zip (ys.zip zs) → (x.1, x.2.1) ∈ xs.zip ys ∧ (x.1, x.2.2) ∈ xs.zip zs
  | [], _, _, _, h => by cases h
  | _ :: _, [], _, _, h => by cases h
  | _ :: _, _ :: _, [], _, h => by cases h
  | x :: xs, y :: ys, z :: zs, t, h => by
    rcases List.mem_cons.mp h with rfl | h
    · exact ⟨List.mem_cons_self, List.mem_cons_self⟩
    · have := zip_mem3 h
      exact ⟨List.mem_cons_of_mem _ this.1, List.mem_cons_of_mem _ this.2⟩
theorem chas_len {q c : Int} {i : Nat} {sh : List Int} (h : i ≤ sh.length) : (chas q c i sh).length = sh.length + 1 := by
  unfold chas insAt
  rw [List.length_append, List.length_cons, List.length_take, List.length_drop]
  omega
end

/-! ### the program's first move and answer -/
theorem zipIdx_at {α : Type} {xs : List α} {k i : Nat} {x : α} (h : (xs.zipIdx 0)[k]? = some (x, i)) : xs[k]? = some x ∧ i = k := by
  rw [List.getElem?_zipIdx] at h
  cases e : xs[k]? with
  | none =>
    rw [e] at h
    cases h
  | some y =>
    rw [e] at h
    simp only [Option.map_some, Option.some.injEq, Prod.mk.injEq] at h
    exact ⟨by rw [h.1], by omega⟩
theorem zip_at3 {α β γ : Type} : ∀ {xs : List α} {ys : List β} {zs : List γ} {k : Nat} {x : α} {y : β} {z : γ}, xs[k]? = some x → ys[k]? = some y → zs[k]? = some z → (xs.zip (ys.zip zs))[k]? = some (x, y, z)
  | [], _, _, _, _, _, _, h, _, _ => by simp at h
  | _ :: _, [], _, _, _, _, _, _, h, _ => by simp at h
  | _ :: _, _ :: _, [], _, _, _, _, _, _, h => by simp at h
  | _ :: _, _ :: _, _ :: _, 0, _, _, _, h1, h2, h3 => by
    simp only [List.getElem?_cons_zero, Option.some.injEq] at h1 h2 h3
    subst h1 h2 h3
    rfl
  | _ :: _, _ :: _, _ :: _, k + 1, _, _, _, h1, h2, h3 => by
    simp only [List.getElem?_cons_succ] at h1 h2 h3
    simp only [List.zip_cons_cons, List.getElem?_cons_succ]
    exact zip_at3 h1 h2 h3
theorem mapIdx_snoc {α β : Type} (f : Nat → α → β) {z : List α} {k : Nat} {x : α} (h : z[k]? = some x) : (z.take (k + 1)).mapIdx f = (z.take k).mapIdx f ++ [f k x] := by
  have lt := (List.getElem?_eq_some_iff.mp h).1
  rw [take_snoc h, List.mapIdx_concat, List.length_take, Nat.min_eq_left (by omega)]
theorem mapIdx_map {α β γ : Type} (f : Nat → α → β) (g : β → γ) (l : List α) : (l.mapIdx f).map g = l.mapIdx fun k x => g (f k x) := by
  refine List.ext_getElem? fun i => ?_
  rw [List.getElem?_map, List.getElem?_mapIdx, List.getElem?_mapIdx]
  cases l[i]? <;> rfl
theorem chas_at {q c : Int} {i : Nat} {sh : List Int} (h : i ≤ sh.length) : (chas q c i sh)[i]? = some ((c - sh.sum) % q) := by
  unfold chas insAt
  rw [List.getElem?_append_right (by rw [List.length_take]; omega), List.length_take, Nat.min_eq_left h, Nat.sub_self]
  rfl
theorem pkD_eq {n : Nat} (f : Wt n → Dat) (i : Nat) (w : Wt n) : pkD f (i, w) = .tup [.int (i : Nat), f w] := rfl
theorem ptD_eq {n : Nat} (f : Tp n → Dat) (a : List Int) (b : List (Tp n)) : ptD f (a, b) = .tup [tupM .int a, tupM f b] := rfl
theorem rpD_eq {n : Nat} (f : Ry n → Dat) (c : Int) (r : Ry n) : rpD f (c, r) = .tup [.int c, f r] := rfl
section
variable {P : Program} {w : World} {K : PySem.W.Frag} {mg : Str → Option Value} {base : Heap} {ca : Nat → Addr}
def PtFit (n : Nat) (bs : List (Cl n)) (pt : List Int × List (Tp n)) : Prop := pt.1.length + 1 = bs.length ∧ pt.2.length = bs.length ∧ ∀ y ∈ bs.zip pt.2, TpFit n y.1 y.2
def BsOk (n : Nat) (bs : List (Cl n)) : Prop := 0 < bs.length ∧ bs.length ≤ 100 ∧ ∀ b ∈ bs, ClOk n b
def aspFstCh (n : Nat) : ASp := fun ds P => ∃ (p q : Int) (gs : List Int) (bs : List (Cl n)) (pk : Nat × Wt n) (pt : List Int × List (Tp n)), ds = [grpD p q gs, tupM (clO n) bs, pkD (wtD n) pk, ptD (tpD n) pt] ∧ (0 < q ∧ 1 < p ∧ p < 2147483648) ∧ BsOk n bs ∧ PtFit n bs pt ∧ (∃ b, bs[pk.1]? = some b ∧ WtFit n b pk.2) ∧
  P (tupM (mvD n) (fstCh q (fstC p q n) (simC p q n) bs pk pt))
def aspFst (n : Nat) : ASp := fun ds P => ∃ (p q : Int) (gs : List Int) (cl : Cl n) (wt : Wt n) (t : Tp n), ds = [grpD p q gs, clO n cl, wtD n wt, tpD n t] ∧ (0 < q ∧ 1 < p ∧ p < 2147483648) ∧ ClOk n cl ∧ WtFit n cl wt ∧ TpFit n cl t ∧ P (mvD n (fstC p q n cl wt t))
def aspAnsCh (n : Nat) : ASp := fun ds P => ∃ (p q c : Int) (gs : List Int) (bs : List (Cl n)) (pk : Nat × Wt n) (pt : List Int × List (Tp n)), ds = [grpD p q gs, tupM (clO n) bs, pkD (wtD n) pk, ptD (tpD n) pt, .int c] ∧ (0 < q ∧ 1 < p ∧ p < 2147483648 ∧ q < 2147483648) ∧ BsOk n bs ∧ PtFit n bs pt ∧ (∃ b, bs[pk.1]? = some b ∧ WtFit n b pk.2) ∧ WtRng q n pk.2 ∧
  P (tupM (rpD (ryD n)) (sndR (plyCh q (plyC p q n) (simC p q n) c bs pk pt)))
def aspAns (n : Nat) : ASp := fun ds P => ∃ (p q c : Int) (gs : List Int) (cl : Cl n) (wt : Wt n) (t : Tp n), ds = [grpD p q gs, clO n cl, wtD n wt, tpD n t, .int c] ∧ (0 < q ∧ 1 < p ∧ p < 2147483648 ∧ q < 2147483648) ∧ (-2147483648 < c ∧ c < 2147483648) ∧ ClOk n cl ∧ WtFit n cl wt ∧ WtRng q n wt ∧ TpFit n cl t ∧ P (ryD n (plyC p q n cl wt t c).2)
end

/-! ### what satisfies, what fits -/
theorem paired_all {α : Type} {R : α → Prop} {P : Dat → Prop} {xs : List α} {ys : List Dat} (h : Paired (fun x y => ∃ b : Bool, y = Dat.bl b ∧ (b = true ↔ R x)) xs ys) (hp : ∀ b : Bool, (b = true ↔ ∀ x ∈ xs, R x) → P (.bl b)) : kAll (.lst ys) P := by
  have : ∃ bs : List Bool, ys = bs.map Dat.bl ∧ (bs.all id = true ↔ ∀ x ∈ xs, R x) := by
    clear hp
    induction h with
    | nil => exact ⟨[], rfl, by simp⟩
    | cons a _ ih =>
      obtain ⟨b, rfl, hb⟩ := a
      obtain ⟨bs, rfl, hbs⟩ := ih
      refine ⟨b :: bs, rfl, ?_⟩
      rw [List.all_cons, Bool.and_eq_true, hbs]
      show (b = true ∧ _) ↔ _
      rw [hb, List.forall_mem_cons]
  obtain ⟨bs, rfl, hb⟩ := this
  exact ⟨bs, rfl, hp _ hb⟩
abbrev s__pick_satisfied : Stmt := top 13
theorem sc__pick_satisfied : FnScope ["group", "branches", "pick", "index", "witness"] ["group", "branches", "pick"] (defScope s__pick_satisfied) := ⟨rfl, rfl, rfl, by decide +kernel, rfl, by decide +kernel, by decide +kernel⟩
abbrev s_satisfied : Stmt := top 12
theorem sc_satisfied : FnScope ["group", "claim", "witness", "values", "picks", "branches", "pick"] ["group", "claim", "witness"] (defScope s_satisfied) := ⟨rfl, rfl, rfl, by decide +kernel, rfl, by decide +kernel, by decide +kernel⟩
section
variable {P : Program} {w : World} {K : PySem.W.Frag} {mg : Str → Option Value} {base : Heap} {ca : Nat → Addr}
def aspPickSat (n : Nat) : ASp := fun ds P => ∃ (p q : Int) (gs : List Int) (bs : List (Cl n)) (pk : Nat × Wt n), ds = [grpD p q gs, tupM (clO n) bs, pkD (wtD n) pk] ∧ (0 < q ∧ 1 < p ∧ p < 2147483648) ∧ BsOk n bs ∧ ∀ b : Bool, (b = true ↔ ∃ c, bs[pk.1]? = some c ∧ SatC p q n c pk.2) → P (.bl b)
def aspSat (n : Nat) : ASp := fun ds P => ∃ (p q : Int) (gs : List Int) (cl : Cl n) (wt : Wt n), ds = [grpD p q gs, clO n cl, wtD n wt] ∧ (0 < q ∧ 1 < p ∧ p < 2147483648) ∧ ClOk n cl ∧ ∀ b : Bool, (b = true ↔ SatC p q n cl wt) → P (.bl b)
theorem ok_pick_satisfied (n : Nat) {f : Addr} {fd : FuncData} (F : Fun K "_pick_satisfied" "_pick_satisfied" s__pick_satisfied f fd) (B : Blt mg) (C_satisfied : C8.Cal P w K mg base (2 * n + 6) "satisfied" (toSp K ca (aspSat n)) []) :
    FnOk P w K mg base CX0 (2 * n + 7) f fd ["group", "branches", "pick"] (toSp K ca (aspPickSat n)) := by
  refine F.ok sc__pick_satisfied (fun vs H Q E h => sp_len (n := 3) (fun ds P a => by obtain ⟨_, _, _, _, _, rfl, _⟩ := a; rfl) h) (fun cdv A outer s H vs Q E hr h => ⟨_, (pss_cons (ps_asg (pv 2) (kgtup (K := K) (n := 2) rfl rfl (pgs_cons (pg_name (i := 3) sc__pick_satisfied.nd rfl (.inl rfl)) (pgs_cons (pg_name (i := 4) sc__pick_satisfied.nd rfl (.inl rfl)) pgs_nil))))
      (pss_one (ps_ret (pe_and (pe_chain op_le op_lt pe_int (pv 3) (pe_callB (klen (K := K) rfl) (by rfl) B.len bt_len (pa_cons (pv 1) pa_nil))) (pe_one (C8.pe_c C_satisfied hr (by omega) rfl (pa_cons (pv 0) (pa_cons (pe_ix (kixs (K := K) rfl) (pv 1) (pv 3) (fun _ _ => rfl)) (pa_cons (pv 4) pa_nil))))))))),
    fn_run h (fun po => (s_seq (s_asg (vs := [3, 4]) (fun _ => a_var) (fun _ => (g_tup (g_cons (g_name (by decide)) (g_cons (g_name (by decide)) g_nil tot_name) tot_name))))
      (s_ret fun _ => (a_andV (a_chain rok_B0 rok_B0 a_int a_var (a_b1 u_len (a_pk a_var))) (a_call (a_cons a_var (a_cons (a_op pst_pk rok_ix (a_pk a_var) a_var) (a_cons a_var a_nil)))))))) (fun ds P a => by obtain ⟨_, _, _, _, _, rfl, _⟩ := a; exact Nat.le_of_ble_eq_true rfl) ?_⟩)
  rintro ds P ⟨p, q, gs, bs, ⟨i, wt⟩, rfl, hq, ⟨l0, hl, ok⟩, hp⟩
  rw [pkD_eq]
  unfold tupM
  walk_at "dd"
  rw [List.length_map]
  refine twoD (fun _ => ?_) (fun h => absurd (Int.natCast_nonneg i) h)
  refine twoD (fun h => ?_) (fun h => ?_)
  · have lt : i < bs.length := by omega
    have hb : bs[i]? = some bs[i] := List.getElem?_eq_getElem lt
    generalize bs[i] = b at hb
    refine oa_at rfl hb ?_
    refine ⟨p, q, gs, b, wt, rfl, hq, ok b (List.mem_of_getElem? hb), fun c hc => hp c ?_⟩
    rw [hc]
    exact ⟨fun z => ⟨b, hb, z⟩, fun ⟨c, e, z⟩ => by
      have e : bs[i]? = some c := e
      rw [hb] at e
      cases e
      exact z⟩
  · refine hp false ⟨fun z => (by cases z), fun ⟨c, e, _⟩ => ?_⟩
    have := (List.getElem?_eq_some_iff.mp e).1
    exact absurd (show (i : Int) < bs.length by omega) h
theorem ok_satisfied (n : Nat) {f : Addr} {fd : FuncData} (F : Fun K "satisfied" "satisfied" s_satisfied f fd) (T2 : CT K (ca 2)) (B : Blt mg) (C_holds : C8.Cal P w K mg base 5 "holds" (toSp K ca aspHolds) []) (C__pick_satisfied : C8.Cal P w K mg base (2 * n + 7) "_pick_satisfied" (toSp K ca (aspPickSat n)) []) :
    FnOk P w K mg base CX0 (2 * n + 8) f fd ["group", "claim", "witness"] (toSp K ca (aspSat (n + 1))) := by
  refine F.ok sc_satisfied (fun vs H Q E h => sp_len (n := 3) (fun ds P a => by obtain ⟨_, _, _, _, _, rfl, _⟩ := a; rfl) h) (fun cdv A outer s H vs Q E hr h => ⟨_, (pss_cons (ps_asg (pv 2) (kgtup (K := K) (n := 2) rfl rfl (pgs_cons (pg_name (i := 3) sc_satisfied.nd rfl (.inl rfl)) (pgs_cons (pg_name (i := 4) sc_satisfied.nd rfl (.inl rfl)) pgs_nil))))
      (pss_cons (ps_if (PW.pt (pw_or (pt_cmpR op_ne (pe_callB (klen (K := K) rfl) (by rfl) B.len bt_len (pa_cons (pv 4) pa_nil)) (pe_callB (klen (K := K) rfl) (by rfl) B.len bt_len (pa_cons (kfld (K := K) rfl (pv 1)) pa_nil)) (nomark _)) (pw_or1 (pt_not (pt_val (C8.pe_c C_holds hr (by omega) rfl (pa_cons (pv 0) (pa_cons (kfld (K := K) rfl (pv 1)) (pa_cons (pv 3) pa_nil))))))))) (pss_one (ps_ret pe_bl)) pss_nil)
      (pss_one (ps_ret (pe_callB (kall (K := K) rfl rfl) (by rfl) B.all bt_all (pa_cons (pe_lc (own := [("branches", 5), ("pick", 6)]) (tt := tYes) rfl sc_satisfied.nd (pi_zipF true true (K := K) rfl (by rfl) B.zip (pa_cons (kfld (K := K) rfl (pv 1)) (pa_cons (pv 4) pa_nil))) (blkOk_by (N := ["group", "claim", "witness", "values", "picks", "branches", "pick"]) (sc := defScope s_satisfied) (by decide +kernel))
        (fun _ _ _ _ _ => (kgtup (K := K) (n := 2) rfl rfl (pgs_cons (pg_name (i := 5) sc_satisfied.nd rfl (.inl rfl)) (pgs_cons (pg_name (i := 6) sc_satisfied.nd rfl (.inl rfl)) pgs_nil)))) (fun _ _ _ _ _ => pts_nil)
        (fun _ _ _ _ _ => (C8.pe_c C__pick_satisfied hr (by omega) rfl (pa_cons (pv 0) (pa_cons (pv 5) (pa_cons (pv 6) pa_nil)))))) pa_nil)))))),
    fn_run h (fun po => (s_seq (s_asg (vs := [3, 4]) (fun _ => a_var) (fun _ => (g_tup (g_cons (g_name (by decide)) (g_cons (g_name (by decide)) g_nil tot_name) tot_name))))
      (s_seq (s_if (fun _ => (a_or (a_test (a_op pst_rv rok_ne (a_b1 u_len (a_pk a_var)) (a_b1 u_len (a_pk (a_fld T2.cl T2.n_choices (c := 2) (i := 1) rfl a_var))))) (a_not (a_tb (a_call (a_cons a_var (a_cons (a_fld T2.cl T2.n_statement (c := 2) (i := 0) rfl a_var) (a_cons a_var a_nil)))))))) (s_ret fun _ => a_bl) s_next)
      (s_ret fun _ => (a_b1 u_all (a_pk (a_fz (a_lc (vs := [5, 6]) (i_zip (a_cons (a_fld T2.cl T2.n_choices (c := 2) (i := 1) rfl a_var) (a_cons a_var a_nil))) (g_tup (g_cons (g_name (by decide)) (g_cons (g_name (by decide)) g_nil tot_name) tot_name)) a_yes (a_call (a_cons a_var (a_cons a_var (a_cons a_var a_nil)))))))))))) (fun ds P a => by obtain ⟨_, _, _, _, _, rfl, _⟩ := a; exact Nat.le_of_ble_eq_true rfl) ?_⟩)
  rintro ds P ⟨p, q, gs, ⟨s, chs⟩, ⟨vs, pks⟩, rfl, ⟨q0, p0, p1⟩, ⟨so, hl, ok⟩, hp⟩
  have hp : ∀ b : Bool, (b = true ↔ vs.length = s.us.length ∧ sides p q s.us s.eqs vs = s.eqs.map (·.1) ∧ pks.length = chs.length ∧ ∀ x ∈ chs.zip pks, ∃ b, x.1[x.2.1]? = some b ∧ SatC p q n b x.2.2) → P (.bl b) := hp
  rw [clO_s, wtD_s]
  unfold tupM
  walk_at "dd"
  rw [List.length_map, List.length_map]
  refine twoN (fun h => ?_) (fun h => ?_)
  · exact hp false ⟨fun z => (by cases z), fun z => absurd (by rw [z.2.2.1]) h⟩
  · have lp : pks.length = chs.length := by omega
    refine ⟨true, p, q, gs, s.us, s.eqs, vs, rfl, q0, p0, p1, so, fun b hb => ?_⟩
    cases b with
    | false =>
      walk_at "dd"
      exact hp false ⟨fun z => (by cases z), fun z => hb.mpr ⟨z.1, z.2.1⟩⟩
    | true =>
      have hb := hb.mp rfl
      walk_at "dd"
      rw [zipD_map]
      refine ⟨by rw [List.length_map, List.length_zip]; omega, ?_⟩
      refine lcA_relL (fun x y => ∃ b : Bool, y = Dat.bl b ∧ (b = true ↔ ∃ c, x.1[x.2.1]? = some c ∧ SatC p q n c x.2.2)) (fun x hx Q hQ => ?_) fun ys pr => ?_
      · exact ⟨p, q, gs, x.1, x.2, rfl, ⟨q0, p0, p1⟩, ok x.1 (List.of_mem_zip hx).1, fun b hb => hQ _ ⟨b, rfl, hb⟩⟩
      · refine paired_all pr fun b hb2 => hp b ?_
        rw [hb2]
        exact ⟨fun z => ⟨hb.1, hb.2, lp, z⟩, fun z => z.2.2.2⟩
theorem rec_sat {f1 f2 : Addr} {fd1 fd2 : FuncData} (F1 : Fun K "_pick_satisfied" "_pick_satisfied" s__pick_satisfied f1 fd1) (m1 : mg "_pick_satisfied" = some (.ref f1)) (k1 : PySem.W.keepIn K (.ref f1) = true) (b1 : Binds K fd1 ["group", "branches", "pick"] [])
    (F2 : Fun K "satisfied" "satisfied" s_satisfied f2 fd2) (m2 : mg "satisfied" = some (.ref f2)) (k2 : PySem.W.keepIn K (.ref f2) = true) (b2 : Binds K fd2 ["group", "claim", "witness"] []) (T2 : CT K (ca 2)) (B : Blt mg) (C_holds : C8.Cal P w K mg base 5 "holds" (toSp K ca aspHolds) []) :
    ∀ n, C8.Cal P w K mg base (2 * n + 6) "satisfied" (toSp K ca (aspSat n)) [] ∧ C8.Cal P w K mg base (2 * n + 7) "_pick_satisfied" (toSp K ca (aspPickSat n)) []
  | 0 => by
    have S : C8.Cal P w K mg base 6 "satisfied" (toSp K ca (aspSat 0)) [] := ⟨⟨f2, fd2, _, [], fn_vac fun _ _ ⟨_, _, _, c, _⟩ => c.elim, m2, k2, b2, .nil⟩⟩
    exact ⟨S, ⟨⟨f1, fd1, _, [], ok_pick_satisfied 0 F1 B S, m1, k1, b1, .nil⟩⟩⟩
  | n + 1 => by
    have S : C8.Cal P w K mg base (2 * (n + 1) + 6) "satisfied" (toSp K ca (aspSat (n + 1))) [] := ⟨⟨f2, fd2, _, [], ok_satisfied n F2 T2 B C_holds (rec_sat F1 m1 k1 b1 F2 m2 k2 b2 T2 B C_holds n).2, m2, k2, b2, .nil⟩⟩
    exact ⟨S, ⟨⟨f1, fd1, _, [], ok_pick_satisfied (n + 1) F1 B S, m1, k1, b1, .nil⟩⟩⟩
end

abbrev s__has_form : Stmt := top 15
theorem sc__has_form : FnScope ["claim", "first", "replied", "_", "moves", "replies", "answers"] ["claim", "first", "replied"] (defScope s__has_form) := ⟨rfl, rfl, rfl, by decide +kernel, rfl, by decide +kernel, by decide +kernel⟩
abbrev s__choice_fits : Stmt := top 16
theorem sc__choice_fits : FnScope ["group", "branches", "moves", "challenge", "pairs", "branch", "move", "share", "replied", "pair", "_"] ["group", "branches", "moves", "challenge", "pairs"] (defScope s__choice_fits) := ⟨rfl, rfl, rfl, by decide +kernel, rfl, by decide +kernel, by decide +kernel⟩
abbrev s_fits : Stmt := top 14
theorem sc_fits : FnScope ["group", "claim", "first", "challenge", "replied", "numbers", "moves", "replies", "answers", "branches", "move", "pairs", "number"] ["group", "claim", "first", "challenge", "replied"] (defScope s_fits) := ⟨rfl, rfl, rfl, by decide +kernel, rfl, by decide +kernel, by decide +kernel⟩
section
variable {P : Program} {w : World} {K : PySem.W.Frag} {mg : Str → Option Value} {base : Heap} {ca : Nat → Addr}
def aspForm : ASp := fun ds P => ∃ (n : Nat) (s : Stm) (chs : List (List (Cl n))) (ms : List Int) (mvs : List (List (Mv n))) (rs : List Int) (ans : List (List (Int × Ry n))), ds = [clO (n + 1) (s, chs), mvD (n + 1) (ms, mvs), ryD (n + 1) (rs, ans)] ∧
  ∀ b : Bool, (b = true ↔ rs.length = s.us.length ∧ mvs.length = chs.length ∧ ans.length = chs.length) → P (.bl b)
theorem ok_has_form {f : Addr} {fd : FuncData} (F : Fun K "_has_form" "_has_form" s__has_form f fd) (T1 : ST K (ca 1)) (T2 : CT K (ca 2)) (B : Blt mg) : FnOk P w K mg base CX0 1 f fd ["claim", "first", "replied"] (toSp K ca aspForm) := by
  refine F.ok sc__has_form (fun vs H Q E h => sp_len (n := 3) (fun ds P a => by obtain ⟨_, _, _, _, _, _, _, rfl, _⟩ := a; rfl) h) (fun cdv A outer s H vs Q E hr h => ⟨_, (pss_cons (ps_if (PW.pt (pw_or (pt_cmpR op_ne (pe_callB (klen (K := K) rfl) (by rfl) B.len bt_len (pa_cons (pv 1) pa_nil)) pe_int (nomark _)) (pw_or1 (pt_cmpR op_ne (pe_callB (klen (K := K) rfl) (by rfl) B.len bt_len (pa_cons (pv 2) pa_nil)) pe_int (nomark _))))) (pss_one (ps_ret pe_bl)) pss_nil)
      (pss_cons (ps_asg (pv 1) (kgtup (K := K) (n := 2) rfl rfl (pgs_cons (pg_name (i := 3) sc__has_form.nd rfl (.inl rfl)) (pgs_cons (pg_name (i := 4) sc__has_form.nd rfl (.inl rfl)) pgs_nil))))
      (pss_cons (ps_asg (pv 2) (kgtup (K := K) (n := 2) rfl rfl (pgs_cons (pg_name (i := 5) sc__has_form.nd rfl (.inl rfl)) (pgs_cons (pg_name (i := 6) sc__has_form.nd rfl (.inl rfl)) pgs_nil))))
      (pss_one (ps_ret (pe_and (pe_cmpR op_eq (pe_callB (klen (K := K) rfl) (by rfl) B.len bt_len (pa_cons (pv 5) pa_nil)) (pe_callB (klen (K := K) rfl) (by rfl) B.len bt_len (pa_cons (kfld (K := K) rfl (kfld (K := K) rfl (pv 0))) pa_nil)) (nomark _)) (pe_and (pe_cmpR op_eq (pe_callB (klen (K := K) rfl) (by rfl) B.len bt_len (pa_cons (pv 4) pa_nil)) (pe_callB (klen (K := K) rfl) (by rfl) B.len bt_len (pa_cons (kfld (K := K) rfl (pv 0)) pa_nil)) (nomark _)) (pe_one (pe_cmpR op_eq (pe_callB (klen (K := K) rfl) (by rfl) B.len bt_len (pa_cons (pv 6) pa_nil)) (pe_callB (klen (K := K) rfl) (by rfl) B.len bt_len (pa_cons (kfld (K := K) rfl (pv 0)) pa_nil)) (nomark _)))))))))),
    fn_run h (fun po => (s_seq (s_if (fun _ => (a_or (a_test (a_op pst_rv rok_ne (a_b1 u_len (a_pk a_var)) a_int)) (a_test (a_op pst_rv rok_ne (a_b1 u_len (a_pk a_var)) a_int)))) (s_ret fun _ => a_bl) s_next)
      (s_seq (s_asg (vs := [3, 4]) (fun _ => a_var) (fun _ => (g_tup (g_cons (g_name (by decide)) (g_cons (g_name (by decide)) g_nil tot_name) tot_name))))
      (s_seq (s_asg (vs := [5, 6]) (fun _ => a_var) (fun _ => (g_tup (g_cons (g_name (by decide)) (g_cons (g_name (by decide)) g_nil tot_name) tot_name))))
      (s_ret fun _ => (a_andV (a_op pst_rv rok_eq (a_b1 u_len (a_pk a_var)) (a_b1 u_len (a_pk (a_fld T1.cl T1.n_unknowns (c := 1) (i := 0) rfl (a_fld T2.cl T2.n_statement (c := 2) (i := 0) rfl a_var))))) (a_andV (a_op pst_rv rok_eq (a_b1 u_len (a_pk a_var)) (a_b1 u_len (a_pk (a_fld T2.cl T2.n_choices (c := 2) (i := 1) rfl a_var)))) (a_op pst_rv rok_eq (a_b1 u_len (a_pk a_var)) (a_b1 u_len (a_pk (a_fld T2.cl T2.n_choices (c := 2) (i := 1) rfl a_var))))))))))) (fun ds P a => by obtain ⟨_, _, _, _, _, _, _, rfl, _⟩ := a; exact Nat.le_of_ble_eq_true rfl) ?_⟩)
  rintro ds P ⟨n, s, chs, ms, mvs, rs, ans, rfl, hp⟩
  rw [clO_s, mvD_s, ryD_s]
  generalize hF : [tupM Dat.int ms, tupM (tupM (mvD n)) mvs] = F
  generalize hG : [tupM Dat.int rs, tupM (tupM (rpD (ryD n))) ans] = G
  have lF : F.length = 2 := by rw [← hF]; rfl
  have lG : G.length = 2 := by rw [← hG]; rfl
  -- by steps: the kernel takes too long over the whole
  rw [sSeq, sIf, aOr]
  simp only [aTest_eq, a2, a1, aC, aVar, List.map_cons, List.cons_append, dAt_0, dAt_s, dQ_d, kLen, sQ_tup, kEq_i, bQ_bl, if_true]
  refine twoN (fun h => absurd (by omega) h) (fun _ => ?_)
  refine twoN (fun h => absurd (by omega) h) (fun _ => ?_)
  rw [sNext]
  dsimp only
  rw [sSeq, sAsg]
  subst hF hG
  unfold stO tupM
  walk_at "dd"
  rw [List.length_map, List.length_map, List.length_map, List.length_map, List.length_map]
  refine twoD (fun h1 => twoD (fun h2 => hp _ ?_) (fun h2 => hp _ ?_)) (fun h1 => hp _ ?_)
  · rw [decide_eq_true_iff]
    exact ⟨fun h => ⟨by omega, by omega, by omega⟩, fun h => by omega⟩
  · exact ⟨fun z => (by cases z), fun z => absurd (by rw [z.2.1]) h2⟩
  · exact ⟨fun z => (by cases z), fun z => absurd (by rw [z.1]) h1⟩
def aspChFits (n : Nat) : ASp := fun ds P => ∃ (p q c : Int) (gs : List Int) (bs : List (Cl n)) (mvs : List (Mv n)) (prs : List (Int × Ry n)), ds = [grpD p q gs, tupM (clO n) bs, tupM (mvD n) mvs, .int c, tupM (rpD (ryD n)) prs] ∧ (0 < q ∧ 1 < p ∧ p < 2147483648) ∧ (bs.length ≤ 1000 ∧ ∀ b ∈ bs, ClOk n b) ∧ (mvs.length ≤ 1000 ∧ ∀ m ∈ mvs, MvB n m) ∧ (prs.length ≤ 1000 ∧ ∀ x ∈ prs, RyB n x.2) ∧
  ∀ b : Bool, (b = true ↔ mvs.length = bs.length ∧ prs.length = bs.length ∧ (prs.map (·.1)).sum % q = c ∧ ∀ y ∈ bs.zip (mvs.zip prs), FitsC p q n y.1 y.2.1 y.2.2.1 y.2.2.2) → P (.bl b)
def aspFits (n : Nat) : ASp := fun ds P => ∃ (p q c : Int) (gs : List Int) (cl : Cl n) (m : Mv n) (r : Ry n), ds = [grpD p q gs, clO n cl, mvD n m, .int c, ryD n r] ∧ (0 < q ∧ 1 < p ∧ p < 2147483648) ∧ ClOk n cl ∧ MvB n m ∧ RyB n r ∧ ∀ b : Bool, (b = true ↔ FitsC p q n cl m c r) → P (.bl b)
theorem all_two {α : Type} {xs : List α} {P : Dat → Prop} (h : P (.bl true)) : kAll (.lst (xs.map fun _ => Dat.bl true)) P := ⟨xs.map fun _ => true, by rw [List.map_map]; rfl, by
  rw [show (xs.map fun _ => true).all id = true by
    rw [List.all_eq_true]
    intro b hb
    obtain ⟨_, _, rfl⟩ := List.mem_map.mp hb
    rfl]
  exact h⟩
theorem ok_choice_fits (n : Nat) {f : Addr} {fd : FuncData} (F : Fun K "_choice_fits" "_choice_fits" s__choice_fits f fd) (T0 : GT K (ca 0)) (B : Blt mg) (C_fits : C8.Cal P w K mg base (2 * n + 6) "fits" (toSp K ca (aspFits n)) []) :
    FnOk P w K mg base CX0 (2 * n + 7) f fd ["group", "branches", "moves", "challenge", "pairs"] (toSp K ca (aspChFits n)) := by
  refine F.ok sc__choice_fits (fun vs H Q E h => sp_len (n := 5) (fun ds P a => by obtain ⟨_, _, _, _, _, _, _, rfl, _⟩ := a; rfl) h) (fun cdv A outer s H vs Q E hr h => ⟨_, (pss_cons (ps_if (PW.pt (pw_or (pt_cmpR op_ne (pe_callB (klen (K := K) rfl) (by rfl) B.len bt_len (pa_cons (pv 2) pa_nil)) (pe_callB (klen (K := K) rfl) (by rfl) B.len bt_len (pa_cons (pv 1) pa_nil)) (nomark _)) (pw_or1 (pt_cmpR op_ne (pe_callB (klen (K := K) rfl) (by rfl) B.len bt_len (pa_cons (pv 4) pa_nil)) (pe_callB (klen (K := K) rfl) (by rfl) B.len bt_len (pa_cons (pv 1) pa_nil)) (nomark _))))) (pss_one (ps_ret pe_bl)) pss_nil)
      (pss_cons (ps_if (pt_not (pt_val (pe_callB (kall (K := K) rfl rfl) (by rfl) B.all bt_all (pa_cons (pe_lc (own := [("pair", 9)]) (g := gName 9) (tt := tYes) rfl sc__choice_fits.nd (kpit (K := K) rfl (pv 4)) (blkOk_by (N := ["group", "branches", "moves", "challenge", "pairs", "branch", "move", "share", "replied", "pair", "_"]) (sc := defScope s__choice_fits) (by decide +kernel))
        (fun _ _ _ _ _ => (pg_name (i := 9) sc__choice_fits.nd rfl (.inl rfl))) (fun _ _ _ _ _ => pts_nil)
        (fun _ _ _ _ _ => (pe_cmpR op_eq (pe_callB (klen (K := K) rfl) (by rfl) B.len bt_len (pa_cons (pv 9) pa_nil)) pe_int (nomark _)))) pa_nil)))) (pss_one (ps_ret pe_bl)) pss_nil)
      (pss_cons (ps_if (pt_cmpR op_ne (pe_op op_mod (pe_callB (ksum (K := K) rfl rfl) (by rfl) B.sum bt_sum (pa_cons (pe_lc (own := [("share", 7), ("_", 10)]) (tt := tYes) rfl sc__choice_fits.nd (kpit (K := K) rfl (pv 4)) (blkOk_by (N := ["group", "branches", "moves", "challenge", "pairs", "branch", "move", "share", "replied", "pair", "_"]) (sc := defScope s__choice_fits) (by decide +kernel))
        (fun _ _ _ _ _ => (kgtup (K := K) (n := 2) rfl rfl (pgs_cons (pg_name (i := 7) sc__choice_fits.nd rfl (.inl rfl)) (pgs_cons (pg_name (i := 10) sc__choice_fits.nd rfl (.inl rfl)) pgs_nil)))) (fun _ _ _ _ _ => pts_nil)
        (fun _ _ _ _ _ => (pv 7))) pa_nil)) (kfld (K := K) rfl (pv 0))) (pv 3) (nomark _)) (pss_one (ps_ret pe_bl)) pss_nil)
      (pss_one (ps_ret (pe_callB (kall (K := K) rfl rfl) (by rfl) B.all bt_all (pa_cons (pe_lc (own := [("branch", 5), ("move", 6), ("share", 7), ("replied", 8)]) (tt := tYes) rfl sc__choice_fits.nd (pi_zipT true true true (K := K) rfl (by rfl) B.zip (pa_cons (pv 1) (pa_cons (pv 2) (pa_cons (pv 4) pa_nil)))) (blkOk_by (N := ["group", "branches", "moves", "challenge", "pairs", "branch", "move", "share", "replied", "pair", "_"]) (sc := defScope s__choice_fits) (by decide +kernel))
        (fun _ _ _ _ _ => (kgtup (K := K) (n := 3) rfl rfl (pgs_cons (pg_name (i := 5) sc__choice_fits.nd rfl (.inl rfl)) (pgs_cons (pg_name (i := 6) sc__choice_fits.nd rfl (.inl rfl)) (pgs_cons (kgtup (K := K) (n := 2) rfl rfl (pgs_cons (pg_name (i := 7) sc__choice_fits.nd rfl (.inl rfl)) (pgs_cons (pg_name (i := 8) sc__choice_fits.nd rfl (.inl rfl)) pgs_nil))) pgs_nil))))) (fun _ _ _ _ _ => pts_nil)
        (fun _ _ _ _ _ => (C8.pe_c C_fits hr (by omega) rfl (pa_cons (pv 0) (pa_cons (pv 5) (pa_cons (pv 6) (pa_cons (pv 7) (pa_cons (pv 8) pa_nil)))))))) pa_nil))))))),
    fn_run h (fun po => (s_seq (s_if (fun _ => (a_or (a_test (a_op pst_rv rok_ne (a_b1 u_len (a_pk a_var)) (a_b1 u_len (a_pk a_var)))) (a_test (a_op pst_rv rok_ne (a_b1 u_len (a_pk a_var)) (a_b1 u_len (a_pk a_var)))))) (s_ret fun _ => a_bl) s_next)
      (s_seq (s_if (fun _ => (a_not (a_tb (a_b1 u_all (a_pk (a_fz (a_lc (vs := [9]) (i_tup a_var) (g_name (by decide)) a_yes (a_op pst_rv rok_eq (a_b1 u_len (a_pk a_var)) a_int)))))))) (s_ret fun _ => a_bl) s_next)
      (s_seq (s_if (fun _ => (a_test (a_op pst_rv rok_ne (a_op pst_rv rok_I (a_b1 u_sum (a_pk (a_fz (a_lc (vs := [7, 10]) (i_tup a_var) (g_tup (g_cons (g_name (by decide)) (g_cons (g_name (by decide)) g_nil tot_name) tot_name)) a_yes a_var)))) (a_fld T0.cl T0.n_q (c := 0) (i := 1) rfl a_var)) a_var))) (s_ret fun _ => a_bl) s_next)
      (s_ret fun _ => (a_b1 u_all (a_pk (a_fz (a_lc (vs := [5, 6, 7, 8]) (i_zip3 (a_cons a_var (a_cons a_var (a_cons a_var a_nil)))) (g_tup (g_cons (g_name (by decide)) (g_cons (g_name (by decide)) (g_cons (g_tup (g_cons (g_name (by decide)) (g_cons (g_name (by decide)) g_nil tot_name) tot_name)) g_nil (tot_tup (tot_cons tot_name (tot_cons tot_name tot_nil)))) tot_name) tot_name)) a_yes (a_call (a_cons a_var (a_cons a_var (a_cons a_var (a_cons a_var (a_cons a_var a_nil))))))))))))))) (fun ds P a => by obtain ⟨_, _, _, _, _, _, _, rfl, _⟩ := a; exact Nat.le_of_ble_eq_true rfl) ?_⟩)
  rintro ds P ⟨p, q, c, gs, bs, mvs, prs, rfl, hq, ⟨lb, hb⟩, ⟨lm, hm⟩, ⟨lr, hr'⟩, hp⟩
  obtain ⟨q0, p0, p1⟩ := id hq
  unfold tupM
  rw [sSeq, sIf, aOr]
  simp only [aTest_eq, a2, a1, aC, aVar, List.map_cons, List.cons_append, dAt_0, dAt_s, dQ_d, kLen, sQ_tup, kEq_i, bQ_bl, if_true]
  rw [List.length_map, List.length_map, List.length_map]
  refine twoN (fun h => hp _ ⟨fun z => (by cases z), fun z => absurd (by rw [z.1]) h⟩) (fun h1 => ?_)
  refine twoN (fun h => hp _ ⟨fun z => (by cases z), fun z => absurd (by rw [z.2.1]) h⟩) (fun h2 => ?_)
  rw [sNext]
  dsimp only
  rw [sSeq]
  walk_at "dd"
  rw [List.length_map]
  refine ⟨by omega, ?_⟩
  refine lcA_mapL (g := fun _ => Dat.bl true) (fun x hx Q hQ => ?_) ?_
  · unfold rpD
    walk_at "dd"
    rw [decide_eq_true (show ((2 : Nat) : Int) = 2 from rfl)]
    exact hQ
  refine all_two ?_
  walk_at "dd"
  refine ⟨by omega, ?_⟩
  refine lcA_mapL (g := fun x => Dat.int x.1) (fun x hx Q hQ => ?_) ?_
  · unfold rpD
    walk_at "dd"
    exact hQ
  refine ⟨prs.map (·.1), by rw [List.map_map]; rfl, ?_⟩
  unfold grpD
  walk_at "dd"
  refine ⟨q0, ?_⟩
  refine twoN (fun h => hp _ ⟨fun z => (by cases z), fun z => absurd z.2.2.1 h⟩) (fun h3 => ?_)
  simp only [iZip3A]
  walk_at "dd"
  rw [zip3D_map]
  refine ⟨by rw [List.length_map, List.length_zip]; omega, ?_⟩
  refine lcA_relL (fun x y => ∃ b : Bool, y = Dat.bl b ∧ (b = true ↔ FitsC p q n x.1 x.2.1 x.2.2.1 x.2.2.2)) (fun x hx Q hQ => ?_) fun ys pr => ?_
  · unfold rpD
    walk_at "dd"
    have m3 := List.of_mem_zip (zip_mem3 hx).1
    have m4 := List.of_mem_zip (zip_mem3 hx).2
    exact ⟨p, q, x.2.2.1, gs, x.1, x.2.1, x.2.2.2, rfl, hq, hb _ m3.1, hm _ m3.2, hr' _ m4.2, fun b hb => hQ _ ⟨b, rfl, hb⟩⟩
  · refine paired_all pr fun b hb2 => hp b ?_
    rw [hb2]
    exact ⟨fun z => ⟨by omega, by omega, h3, z⟩, fun z => z.2.2.2⟩
theorem ok_fits (n : Nat) {f : Addr} {fd : FuncData} (F : Fun K "fits" "fits" s_fits f fd) (T0 : GT K (ca 0)) (T2 : CT K (ca 2)) (B : Blt mg) (C_simulated : C8.Cal P w K mg base 5 "simulated" (toSp K ca aspSim) []) (C__has_form : C8.Cal P w K mg base 1 "_has_form" (toSp K ca aspForm) [])
    (C__choice_fits : C8.Cal P w K mg base (2 * n + 7) "_choice_fits" (toSp K ca (aspChFits n)) []) : FnOk P w K mg base CX0 (2 * n + 8) f fd ["group", "claim", "first", "challenge", "replied"] (toSp K ca (aspFits (n + 1))) := by
  refine F.ok sc_fits (fun vs H Q E h => sp_len (n := 5) (fun ds P a => by obtain ⟨_, _, _, _, _, _, _, rfl, _⟩ := a; rfl) h) (fun cdv A outer s H vs Q E hr h => ⟨_, (pss_cons (ps_if (pt_not (pt_val (C8.pe_c C__has_form hr (by omega) rfl (pa_cons (pv 1) (pa_cons (pv 2) (pa_cons (pv 4) pa_nil)))))) (pss_one (ps_ret pe_bl)) pss_nil)
      (pss_cons (ps_asg (pv 2) (kgtup (K := K) (n := 2) rfl rfl (pgs_cons (pg_name (i := 5) sc_fits.nd rfl (.inl rfl)) (pgs_cons (pg_name (i := 6) sc_fits.nd rfl (.inl rfl)) pgs_nil))))
      (pss_cons (ps_asg (pv 4) (kgtup (K := K) (n := 2) rfl rfl (pgs_cons (pg_name (i := 7) sc_fits.nd rfl (.inl rfl)) (pgs_cons (pg_name (i := 8) sc_fits.nd rfl (.inl rfl)) pgs_nil))))
      (pss_cons (ps_if (pt_not (pt_val (pe_callB (kall (K := K) rfl rfl) (by rfl) B.all bt_all (pa_cons (pe_lc (own := [("number", 12)]) (g := gName 12) (tt := tYes) rfl sc_fits.nd (kpil (K := K) rfl (pe_lst (pa_cons (pv 3) (kstar (K := K) rfl (pv 7) pa_nil)))) (blkOk_by (N := ["group", "claim", "first", "challenge", "replied", "numbers", "moves", "replies", "answers", "branches", "move", "pairs", "number"]) (sc := defScope s_fits) (by decide +kernel))
        (fun _ _ _ _ _ => (pg_name (i := 12) sc_fits.nd rfl (.inl rfl))) (fun _ _ _ _ _ => pts_nil)
        (fun _ _ _ _ _ => (pe_chain op_le op_lt pe_int (pv 12) (kfld (K := K) rfl (pv 0))))) pa_nil)))) (pss_one (ps_ret pe_bl)) pss_nil)
      (pss_cons (ps_if (pt_cmpR (kned (K := K) rfl hr.units) (C8.pe_c C_simulated hr (by omega) rfl (pa_cons (pv 0) (pa_cons (kfld (K := K) rfl (pv 1)) (pa_cons (pv 3) (pa_cons (pv 7) pa_nil))))) (pv 5) (nomark _)) (pss_one (ps_ret pe_bl)) pss_nil)
      (pss_one (ps_ret (pe_callB (kall (K := K) rfl rfl) (by rfl) B.all bt_all (pa_cons (pe_lc (own := [("branches", 9), ("move", 10), ("pairs", 11)]) (tt := tYes) rfl sc_fits.nd (pi_zipT true true true (K := K) rfl (by rfl) B.zip (pa_cons (kfld (K := K) rfl (pv 1)) (pa_cons (pv 6) (pa_cons (pv 8) pa_nil)))) (blkOk_by (N := ["group", "claim", "first", "challenge", "replied", "numbers", "moves", "replies", "answers", "branches", "move", "pairs", "number"]) (sc := defScope s_fits) (by decide +kernel))
        (fun _ _ _ _ _ => (kgtup (K := K) (n := 3) rfl rfl (pgs_cons (pg_name (i := 9) sc_fits.nd rfl (.inl rfl)) (pgs_cons (pg_name (i := 10) sc_fits.nd rfl (.inl rfl)) (pgs_cons (pg_name (i := 11) sc_fits.nd rfl (.inl rfl)) pgs_nil))))) (fun _ _ _ _ _ => pts_nil)
        (fun _ _ _ _ _ => (C8.pe_c C__choice_fits hr (by omega) rfl (pa_cons (pv 0) (pa_cons (pv 9) (pa_cons (pv 10) (pa_cons (pv 3) (pa_cons (pv 11) pa_nil)))))))) pa_nil))))))))),
    fn_run h (fun po => (s_seq (s_if (fun _ => (a_not (a_tb (a_call (a_cons a_var (a_cons a_var (a_cons a_var a_nil))))))) (s_ret fun _ => a_bl) s_next)
      (s_seq (s_asg (vs := [5, 6]) (fun _ => a_var) (fun _ => (g_tup (g_cons (g_name (by decide)) (g_cons (g_name (by decide)) g_nil tot_name) tot_name))))
      (s_seq (s_asg (vs := [7, 8]) (fun _ => a_var) (fun _ => (g_tup (g_cons (g_name (by decide)) (g_cons (g_name (by decide)) g_nil tot_name) tot_name))))
      (s_seq (s_if (fun _ => (a_not (a_tb (a_b1 u_all (a_pk (a_fz (a_lc (vs := [12]) (i_list (a_fz (a_lstS (a_consS a_var (a_starS (a_pk a_var) a_nilS))))) (g_name (by decide)) a_yes (a_chain rok_B0 rok_B0 a_int a_var (a_fld T0.cl T0.n_q (c := 0) (i := 1) rfl a_var))))))))) (s_ret fun _ => a_bl) s_next)
      (s_seq (s_if (fun _ => (a_test (a_op pst_pk rok_neD (a_pk (a_call (a_cons a_var (a_cons (a_fld T2.cl T2.n_statement (c := 2) (i := 0) rfl a_var) (a_cons a_var (a_cons a_var a_nil)))))) (a_pk a_var)))) (s_ret fun _ => a_bl) s_next)
      (s_ret fun _ => (a_b1 u_all (a_pk (a_fz (a_lc (vs := [9, 10, 11]) (i_zip3 (a_cons (a_fld T2.cl T2.n_choices (c := 2) (i := 1) rfl a_var) (a_cons a_var (a_cons a_var a_nil)))) (g_tup (g_cons (g_name (by decide)) (g_cons (g_name (by decide)) (g_cons (g_name (by decide)) g_nil tot_name) tot_name) tot_name)) a_yes (a_call (a_cons a_var (a_cons a_var (a_cons a_var (a_cons a_var (a_cons a_var a_nil))))))))))))))))) (fun ds P a => by obtain ⟨_, _, _, _, _, _, _, rfl, _⟩ := a; exact Nat.le_of_ble_eq_true rfl) ?_⟩)
  rintro ds P ⟨p, q, c, gs, ⟨s, chs⟩, ⟨ms, mvs⟩, ⟨rs, ans⟩, rfl, hq, ⟨so, hl, ok⟩, ⟨m1, m2, m3⟩, ⟨r1, r2, r3⟩, hp⟩
  obtain ⟨q0, p0, p1⟩ := id hq
  have hp : ∀ b : Bool, (b = true ↔ rs.length = s.us.length ∧ mvs.length = chs.length ∧ ans.length = chs.length ∧ (0 ≤ c ∧ c < q) ∧ (∀ r ∈ rs, 0 ≤ r ∧ r < q) ∧ firsts p q s.us s.eqs c rs = ms ∧
    ∀ x ∈ chs.zip (mvs.zip ans), x.2.1.length = x.1.length ∧ x.2.2.length = x.1.length ∧ (x.2.2.map (·.1)).sum % q = c ∧ ∀ y ∈ x.1.zip (x.2.1.zip x.2.2), FitsC p q n y.1 y.2.1 y.2.2.1 y.2.2.2) → P (.bl b) := hp
  rw [sSeq, sIf]
  simp only [aNot, aTest_eq, aCall, aCons, aNil, aVar, List.map_cons, List.cons_append, dAt_0, dAt_s, dQ_d, bQ_bl]
  refine ⟨n, s, chs, ms, mvs, rs, ans, rfl, fun b hb => ?_⟩
  simp only [bQ_bl]
  cases b with
  | false =>
    refine hp _ ⟨fun z => (by cases z), fun z => ?_⟩
    exact absurd (hb.mpr ⟨z.1, z.2.1, z.2.2.1⟩) (by decide)
  | true =>
    obtain ⟨f1, f2, f3⟩ := hb.mp rfl
    refine twoZ rfl ?_
    rw [sNext]
    dsimp only
    rw [clO_s, mvD_s, ryD_s]
    unfold tupM
    refine seqG fun N hN => ?_
    walk_at "dd"
    subst hN
    refine seqG fun N hN => ?_
    walk_at "dd"
    subst hN
    refine seqG fun N hN => ?_
    walk_at "dd"
    simp only [aSz]
    walk_at "dd"
    rw [aStar]
    walk_at "dd"
    rw [List.append_nil, show Dat.int c :: rs.map Dat.int = (c :: rs).map Dat.int from rfl, List.length_map]
    refine ⟨by omega, by omega, ?_⟩
    refine lcA_relL (fun x y => ∃ b : Bool, y = Dat.bl b ∧ (b = true ↔ 0 ≤ x ∧ x < q)) (fun x hx Q hQ => ?_) fun ys pr => ?_
    · unfold grpD
      walk_at "dd"
      refine twoD (fun h => hQ _ ⟨_, rfl, ?_⟩) (fun h => hQ _ ⟨false, rfl, fun z => (by cases z), fun z => absurd z.1 h⟩)
      rw [decide_eq_true_iff]
      exact ⟨fun z => ⟨h, z⟩, fun z => z.2⟩
    refine paired_all pr fun b hb2 => ?_
    walk_at "dd"
    cases b with
    | false =>
      refine twoY rfl (hp _ ⟨fun z => (by cases z), fun z => hb2.mpr ?_⟩)
      intro x hx
      cases hx with
      | head => exact z.2.2.2.1
      | tail _ h => exact z.2.2.2.2.1 x h
    | true =>
      have hc := hb2.mp rfl
      have hc0 := hc c List.mem_cons_self
      have hc1 : ∀ r ∈ rs, 0 ≤ r ∧ r < q := fun r h => hc r (List.mem_cons_of_mem _ h)
      refine twoZ rfl ?_
      subst hN
      refine seqG fun N hN => ?_
      walk_at "dd"
      refine ⟨true, p, q, gs, s.us, s.eqs, c, rs, rfl, q0, p0, p1, so, by omega, ?_⟩
      refine ⟨(okE_tup (okE_ints _ 0)).up (Nat.le_of_ble_eq_true rfl), (okE_tup (okE_ints _ 0)).up (Nat.le_of_ble_eq_true rfl), fun b hb3 => ?_⟩
      walk_at "dd"
      have hb3 : b = true ↔ firsts p q s.us s.eqs c rs = ms := by
        rw [hb3]
        exact ⟨fun z => ints_inj (Dat.tup.inj z), fun z => by rw [z]⟩
      cases b with
      | false => exact hp _ ⟨fun z => (by cases z), fun z => hb3.mpr z.2.2.2.2.2.1⟩
      | true =>
        have hs := hb3.mp rfl
        subst hN
        walk_at "dd"
        simp only [iZip3A]
        walk_at "dd"
        rw [zip3D_map]
        refine ⟨by rw [List.length_map, List.length_zip]; omega, ?_⟩
        refine lcA_relL (fun x y => ∃ b : Bool, y = Dat.bl b ∧ (b = true ↔ x.2.1.length = x.1.length ∧ x.2.2.length = x.1.length ∧ (x.2.2.map (·.1)).sum % q = c ∧ ∀ y ∈ x.1.zip (x.2.1.zip x.2.2), FitsC p q n y.1 y.2.1 y.2.2.1 y.2.2.2)) (fun x hx Q hQ => ?_) fun ys pr => ?_
        · walk_at "dd"
          have j1 := List.of_mem_zip (zip_mem3 hx).1
          have j2 := List.of_mem_zip (zip_mem3 hx).2
          have i1 := ok _ j1.1
          exact ⟨p, q, c, gs, x.1, x.2.1, x.2.2, rfl, hq, ⟨by omega, i1.2.2⟩, m3 _ j1.2, r3 _ j2.2, fun b hb => hQ _ ⟨b, rfl, hb⟩⟩
        · refine paired_all pr fun b hb4 => hp b ?_
          rw [hb4]
          exact ⟨fun z => ⟨f1, f2, f3, hc0, hc1, hs, z⟩, fun z => z.2.2.2.2.2.2⟩
theorem rec_fits {f1 f2 : Addr} {fd1 fd2 : FuncData} (F1 : Fun K "_choice_fits" "_choice_fits" s__choice_fits f1 fd1) (m1 : mg "_choice_fits" = some (.ref f1)) (k1 : PySem.W.keepIn K (.ref f1) = true) (b1 : Binds K fd1 ["group", "branches", "moves", "challenge", "pairs"] [])
    (F2 : Fun K "fits" "fits" s_fits f2 fd2) (m2 : mg "fits" = some (.ref f2)) (k2 : PySem.W.keepIn K (.ref f2) = true) (b2 : Binds K fd2 ["group", "claim", "first", "challenge", "replied"] []) (T0 : GT K (ca 0)) (T2 : CT K (ca 2)) (B : Blt mg) (C_simulated : C8.Cal P w K mg base 5 "simulated" (toSp K ca aspSim) [])
    (C__has_form : C8.Cal P w K mg base 1 "_has_form" (toSp K ca aspForm) []) :
    ∀ n, C8.Cal P w K mg base (2 * n + 6) "fits" (toSp K ca (aspFits n)) [] ∧ C8.Cal P w K mg base (2 * n + 7) "_choice_fits" (toSp K ca (aspChFits n)) []
  | 0 => by
    have S : C8.Cal P w K mg base 6 "fits" (toSp K ca (aspFits 0)) [] := ⟨⟨f2, fd2, _, [], fn_vac fun _ _ ⟨_, _, _, _, c, _⟩ => c.elim, m2, k2, b2, .nil⟩⟩
    exact ⟨S, ⟨⟨f1, fd1, _, [], ok_choice_fits 0 F1 T0 B S, m1, k1, b1, .nil⟩⟩⟩
  | n + 1 => by
    have S : C8.Cal P w K mg base (2 * (n + 1) + 6) "fits" (toSp K ca (aspFits (n + 1))) [] := ⟨⟨f2, fd2, _, [], ok_fits n F2 T0 T2 B C_simulated C__has_form (rec_fits F1 m1 k1 b1 F2 m2 k2 b2 T0 T2 B C_simulated C__has_form n).2, m2, k2, b2, .nil⟩⟩
    exact ⟨S, ⟨⟨f1, fd1, _, [], ok_choice_fits (n + 1) F1 T0 B S, m1, k1, b1, .nil⟩⟩⟩
end

/-! ### the law's claims: made, their sizes -/
abbrev s__law_size : Stmt := top 42
theorem sc__law_size : FnScope ["claim", "size", "branches", "branch"] ["claim"] (defScope s__law_size) := ⟨rfl, rfl, rfl, by decide +kernel, rfl, by decide +kernel, by decide +kernel⟩
section
variable {P : Program} {w : World} {K : PySem.W.Frag} {mg : Str → Option Value} {base : Heap} {ca : Nat → Addr}
def aspLSz (n : Nat) : ASp := fun ds P => ∃ c : Cl n, ds = [clL n c] ∧ ClOk n c ∧ P (.int ((szC n c : Nat) : Int))
theorem ok_law_size (n : Nat) {f : Addr} {fd : FuncData} (F : Fun K "_law_size" "_law_size" s__law_size f fd) (B : Blt mg) (C__law_size : C8.Cal P w K mg base (n + 1) "_law_size" (toSp K ca (aspLSz n)) []) : FnOk P w K mg base CX0 (n + 2) f fd ["claim"] (toSp K ca (aspLSz (n + 1))) := by
  refine F.ok sc__law_size (fun vs H Q E h => sp_len (n := 1) (fun ds P a => by obtain ⟨_, rfl, _⟩ := a; rfl) h) (fun cdv A outer s H vs Q E hr h => ⟨_, (pss_cons (ps_set (i := 1) sc__law_size.nd rfl (.inl rfl) (pe_callB (klen (K := K) rfl) (by rfl) B.len bt_len (pa_cons (pe_ix (kixs (K := K) rfl) (pe_ix (kixs (K := K) rfl) (pv 0) pe_int (fun _ _ => rfl)) pe_int (fun _ _ => rfl)) pa_nil)))
      (pss_cons (ps_for PassesOwn.never rfl (kpit (K := K) rfl (pe_ix (kixs (K := K) rfl) (pv 0) pe_int (fun _ _ => rfl))) (pg_name (i := 2) sc__law_size.nd rfl (.inl rfl))
      (pss_one (ps_set (i := 1) sc__law_size.nd rfl (.inl rfl) (pe_op op_add (pe_op op_sub (pe_op op_add (pv 1) (pe_callB (klen (K := K) rfl) (by rfl) B.len bt_len (pa_cons (pv 2) pa_nil))) pe_int) (pe_callB (ksum (K := K) rfl rfl) (by rfl) B.sum bt_sum (pa_cons (pe_lc (own := [("branch", 3)]) (g := gName 3) (tt := tYes) rfl sc__law_size.nd (kpit (K := K) rfl (pv 2)) (blkOk_by (N := ["claim", "size", "branches", "branch"]) (sc := defScope s__law_size) (by decide +kernel))
        (fun _ _ _ _ _ => (pg_name (i := 3) sc__law_size.nd rfl (.inl rfl))) (fun _ _ _ _ _ => pts_nil)
        (fun _ _ _ _ _ => (C8.pe_c C__law_size hr (by omega) rfl (pa_cons (pv 3) pa_nil)))) pa_nil))))))
      (pss_one (ps_ret (pv 1))))),
    fn_run h (fun po => (s_seq (s_set fun _ => (a_b1 u_len (a_pk (a_op pst_pk rok_ix (a_pk (a_op pst_pk rok_ix (a_pk a_var) a_int)) a_int))))
      (s_seq (s_for (vs := [2]) (fun _ => (i_tup (a_op pst_pk rok_ix (a_pk a_var) a_int))) (fun _ => (g_name (by decide)))
      (s_set fun _ => (a_op pst_rv rok_I0 (a_op pst_rv rok_I0 (a_op pst_rv rok_I0 a_var (a_b1 u_len (a_pk a_var))) a_int) (a_b1 u_sum (a_pk (a_fz (a_lc (vs := [3]) (i_tup a_var) (g_name (by decide)) a_yes (a_call (a_cons a_var a_nil)))))))))
      (s_ret fun _ => a_var)))) (fun ds P a => by obtain ⟨_, rfl, _⟩ := a; exact Nat.le_of_ble_eq_true rfl) ?_⟩)
  rintro ds P ⟨⟨s, chs⟩, rfl, ⟨so, hl, ok⟩, hp⟩
  rw [clL_s]
  unfold stL tupM
  walk_at "dd"
  rw [List.length_map]
  refine forA_map (fun i env => ∃ y, env = [.d (.tup [.tup [.tup (s.us.map .str), .tup (s.eqs.map eqD)], .tup (chs.map fun bs => .tup (bs.map (clL n)))]), .d (.int ((s.us.length + ((chs.take i).map (chSz (szC n))).sum : Nat) : Int)), y, .u]) ⟨_, rfl⟩ ?_ ?_
  · rintro i bs env hi ⟨y, rfl⟩ N hN
    obtain ⟨b0, b1, ok⟩ := ok bs (List.mem_of_getElem? hi)
    walk_at "dd"
    rw [List.length_map]
    refine ⟨by omega, ?_⟩
    refine lcA_mapL (g := fun b => Dat.int ((szC n b : Nat) : Int)) (fun b hb Q hQ => ⟨b, rfl, ok b hb, hQ⟩) ?_
    refine ⟨(bs.map (szC n)).map fun (x : Nat) => (x : Int), by rw [List.map_map, List.map_map]; rfl, ?_⟩
    rw [natsum]
    walk_at "dd"
    have e1 : ((s.us.length + ((chs.take i).map (chSz (szC n))).sum : Nat) : Int) + (bs.length : Int) - 1 + (((bs.map (szC n)).sum : Nat) : Int) = ((s.us.length + ((chs.take (i + 1)).map (chSz (szC n))).sum : Nat) : Int) := by
      rw [take_snoc hi, List.map_append, List.sum_append, List.map_singleton, List.sum_singleton]
      unfold chSz
      omega
    rw [e1]
    exact hN _ ⟨_, rfl⟩
  · rintro env ⟨y, rfl⟩
    walk_at "dd"
    rw [List.take_length]
    exact hp
theorem rec_law_size {f : Addr} {fd : FuncData} (F : Fun K "_law_size" "_law_size" s__law_size f fd) (m : mg "_law_size" = some (.ref f)) (k : PySem.W.keepIn K (.ref f) = true) (b : Binds K fd ["claim"] []) (B : Blt mg) :
    ∀ n, C8.Cal P w K mg base (n + 1) "_law_size" (toSp K ca (aspLSz n)) []
  | 0 => ⟨⟨f, fd, _, [], fn_vac fun _ _ ⟨c, _⟩ => c.elim, m, k, b, .nil⟩⟩
  | n + 1 => ⟨⟨f, fd, _, [], ok_law_size n F B (rec_law_size F m k b B n), m, k, b, .nil⟩⟩
end

/-! ### claims, made -/
abbrev s_Claim___init__ : Stmt := inClass (top 11) 0
theorem sc_Claim___init__ : FnScope ["self", "statement", "choices", "branches"] ["self", "statement", "choices"] (defScope s_Claim___init__) := ⟨rfl, rfl, rfl, by decide +kernel, rfl, by decide +kernel, by decide +kernel⟩
abbrev s__law_made : Stmt := top 41
theorem sc__law_made : FnScope ["claim", "choices", "branches", "branch"] ["claim"] (defScope s__law_made) := ⟨rfl, rfl, rfl, by decide +kernel, rfl, by decide +kernel, by decide +kernel⟩
section
variable {P : Program} {w : World} {K : PySem.W.Frag} {mg : Str → Option Value} {base : Heap} {ca : Nat → Addr}
def aspClI2 (k1 k2 : Bool) : ASpI := fun ds P => ∃ (d : Dat) (xss : List (List Dat)), ds = [d, sqD k1 (xss.map (sqD k2))] ∧ xss.length ≤ 1000 ∧ P [d, .tup (xss.map .tup)]
def aspClI : ASpI := fun ds P => ∃ k1, ∃ k2, aspClI2 k1 k2 ds P
theorem ok_cl_init {f : Addr} {fd : FuncData} (F : Fun K "__init__" "Claim.__init__" s_Claim___init__ f fd) (T2 : CT K (ca 2)) (B : Blt mg) : FnOk P w K mg base CX0 1 f fd ["self", "statement", "choices"] (toSpI K ca 2 aspClI) := by
  refine F.ok sc_Claim___init__ (fun vs H Q E h => by obtain ⟨k1, h⟩ := sp_exI h; obtain ⟨k2, h⟩ := sp_exI h; exact sp_lenI (n := 2) (fun ds P a => by obtain ⟨_, _, rfl, _⟩ := a; rfl) h) (fun cdv A outer s H vs Q E hr h => ?_)
  obtain ⟨k1, h⟩ := sp_exI h
  obtain ⟨k2, h⟩ := sp_exI h
  refine ⟨_, (pss_cons (ps_fld (pv 0) (pv 1) rfl)
      (pss_cons (ps_fld (pv 0) (pe_callTy (ktupF (K := K) rfl) (by rfl) B.tuple bt_tuple (pa_cons (pe_lc (own := [("branches", 3)]) (g := gName 3) (tt := tYes) rfl sc_Claim___init__.nd (pi_K k1 (K := K) rfl (pv 2)) (blkOk_by (N := ["self", "statement", "choices", "branches"]) (sc := defScope s_Claim___init__) (by decide +kernel))
        (fun _ _ _ _ _ => (pg_name (i := 3) sc_Claim___init__.nd rfl (.inl rfl))) (fun _ _ _ _ _ => pts_nil)
        (fun _ _ _ _ _ => (pe_callTy (ktupF (K := K) rfl) (by rfl) B.tuple bt_tuple (pa_cons (pv 3) pa_nil)))) pa_nil)) rfl) pss_nil)),
    fn_init h (fun po => (i_cons T2.cl T2.n_statement (k := 0) rfl (by decide) (by decide) (fun _ => a_var) (i_cons T2.cl T2.n_choices (k := 1) rfl (by decide) (by decide) (fun _ => (a_b1 u_tupOf (a_pk (a_fz (a_lc (vs := [3]) (i_K a_var) (g_name (by decide)) a_yes (a_b1 u_tupOf (a_pk a_var))))))) i_nil))) (fun ds P a => by obtain ⟨_, _, rfl, _⟩ := a; exact Nat.le_of_ble_eq_true rfl) ?_⟩
  rintro ds P ⟨d, xss, rfl, hl, hp⟩
  refine kQ_sq ⟨by rw [List.length_map]; omega, ?_⟩
  refine lcA_mapL (g := fun xs => Dat.tup xs) (fun x hx Q hQ => ?_) ?_
  · cases k2 with
    | true =>
      unfold sqD
      walk_at "dd"
      exact hQ
    | false =>
      unfold sqD
      walk_at "dd"
      exact hQ
  · exact hp
def aspMade (n : Nat) : ASp := fun ds P => ∃ c : Cl n, ds = [clL n c] ∧ ClOk n c ∧ P (clO n c)
theorem ok_law_made (n : Nat) {f : Addr} {fd : FuncData} (F : Fun K "_law_made" "_law_made" s__law_made f fd) (B : Blt mg) (K_Statement : C8.Mak P w K mg base 2 "Statement" (ca 1) (toSpI K ca 1 aspStI) []) (K_Claim : C8.Mak P w K mg base 1 "Claim" (ca 2) (toSpI K ca 2 aspClI) [])
    (C__law_made : C8.Cal P w K mg base (n + 3) "_law_made" (toSp K ca (aspMade n)) []) : FnOk P w K mg base CX0 (n + 4) f fd ["claim"] (toSp K ca (aspMade (n + 1))) := by
  refine F.ok sc__law_made (fun vs H Q E h => sp_len (n := 1) (fun ds P a => by obtain ⟨_, rfl, _⟩ := a; rfl) h) (fun cdv A outer s H vs Q E hr h => ⟨_, (pss_cons (ps_setLc (i := 1) (own := [("branches", 2)]) (g := gName 2) (tt := tYes) rfl sc__law_made.nd rfl rfl (sw_true rfl rfl rfl (by decide +kernel)) (kpit (K := K) rfl (pe_ix (kixs (K := K) rfl) (pv 0) pe_int (fun _ _ => rfl))) (blkOk_by (N := ["claim", "choices", "branches", "branch"]) (sc := defScope s__law_made) (by decide +kernel))
        (fun _ _ _ _ _ => (pg_name (i := 2) sc__law_made.nd rfl (.inl rfl))) (fun _ _ _ _ _ => pts_nil)
        (fun _ _ _ _ _ => (pe_lc (own := [("branch", 3)]) (g := gName 3) (tt := tYes) rfl sc__law_made.nd (kpit (K := K) rfl (pv 2)) (blkOk_by (N := ["claim", "choices", "branches", "branch"]) (sc := { kind := .function, names := [(".0", .local), ("branches", .local)], isGenerator := false, isCoroutine := false }) (by decide +kernel))
        (fun _ _ _ _ _ => (pg_name (i := 3) sc__law_made.nd rfl (.inl rfl))) (fun _ _ _ _ _ => pts_nil)
        (fun _ _ _ _ _ => (C8.pe_c C__law_made hr (by omega) rfl (pa_cons (pv 3) pa_nil))))))
      (pss_one (ps_ret (C8.pe_mk K_Claim hr (by omega) rfl (pa_cons (C8.pe_mk K_Statement hr (by omega) rfl (pa_cons (pe_ix (kixs (K := K) rfl) (pe_ix (kixs (K := K) rfl) (pv 0) pe_int (fun _ _ => rfl)) pe_int (fun _ _ => rfl)) (pa_cons (pe_ix (kixs (K := K) rfl) (pe_ix (kixs (K := K) rfl) (pv 0) pe_int (fun _ _ => rfl)) pe_int (fun _ _ => rfl)) pa_nil))) (pa_cons (pv 1) pa_nil)))))),
    fn_run h (fun po => (s_seq (s_set fun _ => (a_fz (a_lc (vs := [2]) (i_tup (a_op pst_pk rok_ix (a_pk a_var) a_int)) (g_name (by decide)) a_yes (a_fz (a_lc (vs := [3]) (i_tup a_var) (g_name (by decide)) a_yes (a_call (a_cons a_var a_nil)))))))
      (s_ret fun _ => (a_make (a_cons (a_make (a_cons (a_op pst_pk rok_ix (a_pk (a_op pst_pk rok_ix (a_pk a_var) a_int)) a_int) (a_cons (a_op pst_pk rok_ix (a_pk (a_op pst_pk rok_ix (a_pk a_var) a_int)) a_int) a_nil))) (a_cons a_var a_nil)))))) (fun ds P a => by obtain ⟨_, rfl, _⟩ := a; exact Nat.le_of_ble_eq_true rfl) ?_⟩)
  rintro ds P ⟨⟨s, chs⟩, rfl, ⟨so, hl, ok⟩, hp⟩
  rw [clL_s]
  unfold stL tupM
  walk_at "dd"
  rw [List.length_map]
  refine ⟨by omega, ?_⟩
  refine lcA_mapL (g := fun bs => Dat.lst (bs.map (clO n))) (fun bs hb Q hQ => ?_) ?_
  · obtain ⟨b0, b1, ok⟩ := ok bs hb
    walk_at "dd"
    rw [List.length_map]
    refine ⟨by omega, ?_⟩
    exact lcA_mapL (g := clO n) (fun b hb Q hQ => ⟨b, rfl, ok b hb, hQ⟩) hQ
  · have le := so.le
    have lf := so.lf
    refine ⟨true, true, true, s.us, s.eqs, rfl, by omega, lf, ?_⟩
    refine ⟨false, false, _, chs.map fun bs => bs.map (clO n), by rw [List.map_map]; rfl, by rw [List.length_map]; omega, ?_⟩
    rw [List.map_map]
    exact hp
theorem rec_law_made {f : Addr} {fd : FuncData} (F : Fun K "_law_made" "_law_made" s__law_made f fd) (m : mg "_law_made" = some (.ref f)) (k : PySem.W.keepIn K (.ref f) = true) (b : Binds K fd ["claim"] []) (B : Blt mg) (K_Statement : C8.Mak P w K mg base 2 "Statement" (ca 1) (toSpI K ca 1 aspStI) []) (K_Claim : C8.Mak P w K mg base 1 "Claim" (ca 2) (toSpI K ca 2 aspClI) []) :
    ∀ n, C8.Cal P w K mg base (n + 3) "_law_made" (toSp K ca (aspMade n)) []
  | 0 => ⟨⟨f, fd, _, [], fn_vac fun _ _ ⟨c, _⟩ => c.elim, m, k, b, .nil⟩⟩
  | n + 1 => ⟨⟨f, fd, _, [], ok_law_made n F B K_Statement K_Claim (rec_law_made F m k b B K_Statement K_Claim n), m, k, b, .nil⟩⟩
end

/-! ### the law's tapes -/
abbrev s__law_tape : Stmt := top 43
theorem sc__law_tape : FnScope ["claim", "numbers", "own", "left", "picks", "branches", "shares", "tapes", "branch"] ["claim", "numbers"] (defScope s__law_tape) := ⟨rfl, rfl, rfl, by decide +kernel, rfl, by decide +kernel, by decide +kernel⟩
theorem tpBs_take {n : Nat} {sz : Cl n → Nat} {f : Cl n → List Int → Tp n} : ∀ (bs : List (Cl n)) (L : List Int) (m : Nat), (bs.map sz).sum ≤ m → tpBs sz f bs (L.take m) = tpBs sz f bs L
  | [], _, _, _ => rfl
  | b :: bs, L, m, h => by
    rw [List.map_cons, List.sum_cons] at h
    show f b ((L.take m).take (sz b)) :: tpBs sz f bs ((L.take m).drop (sz b)) = f b (L.take (sz b)) :: tpBs sz f bs (L.drop (sz b))
    rw [List.take_take, Nat.min_eq_left (by omega), List.drop_take, tpBs_take bs _ _ (by omega)]
theorem tpCh_eq {n : Nat} {sz : Cl n → Nat} {f : Cl n → List Int → Tp n} (bs : List (Cl n)) (L : List Int) : tpCh sz f bs (L.take (chSz sz bs)) = (L.take (bs.length - 1), tpBs sz f bs (L.drop (bs.length - 1))) := by
  unfold tpCh chSz
  rw [List.take_take, Nat.min_eq_left (by omega), List.drop_take, tpBs_take _ _ _ (by omega)]
theorem drop_min {α : Type} (L : List α) (k : Nat) : L.drop (L.take k).length = L.drop k := by
  rw [List.length_take]
  by_cases h : k ≤ L.length
  · rw [Nat.min_eq_left h]
  · rw [Nat.min_eq_right (by omega), List.drop_eq_nil_of_le (Nat.le_refl _), List.drop_eq_nil_of_le (by omega)]
section
variable {P : Program} {w : World} {K : PySem.W.Frag} {mg : Str → Option Value} {base : Heap} {ca : Nat → Addr}
def aspLTp (n : Nat) : ASp := fun ds P => ∃ (c : Cl n) (ns : List Int), ds = [clL n c, .lst (ns.map .int)] ∧ ClOk n c ∧ P (tpD n (tpC n c ns))
theorem ok_law_tape (n : Nat) {f : Addr} {fd : FuncData} (F : Fun K "_law_tape" "_law_tape" s__law_tape f fd) (B : Blt mg) (C__law_size : C8.Cal P w K mg base (n + 1) "_law_size" (toSp K ca (aspLSz n)) []) (C__law_tape : C8.Cal P w K mg base (n + 1) "_law_tape" (toSp K ca (aspLTp n)) []) :
    FnOk P w K mg base CX0 (n + 2) f fd ["claim", "numbers"] (toSp K ca (aspLTp (n + 1))) := by
  refine F.ok sc__law_tape (fun vs H Q E h => sp_len (n := 2) (fun ds P a => by obtain ⟨_, _, rfl, _⟩ := a; rfl) h) (fun cdv A outer s H vs Q E hr h => ⟨_, (pss_cons (ps_set (i := 2) sc__law_tape.nd rfl (.inl rfl) (pe_callTy (ktupF (K := K) rfl) (by rfl) B.tuple bt_tuple (pa_cons (pe_slice (ksll (K := K) rfl) (pv 1) po_none (po_some (pe_callB (klen (K := K) rfl) (by rfl) B.len bt_len (pa_cons (pe_ix (kixs (K := K) rfl) (pe_ix (kixs (K := K) rfl) (pv 0) pe_int (fun _ _ => rfl)) pe_int (fun _ _ => rfl)) pa_nil)))) pa_nil)))
      (pss_cons (ps_set (i := 3) sc__law_tape.nd rfl (.inl rfl) (pe_slice (ksll (K := K) rfl) (pv 1) (po_some (pe_callB (klen (K := K) rfl) (by rfl) B.len bt_len (pa_cons (pv 2) pa_nil))) po_none))
      (pss_cons (ps_set (i := 4) sc__law_tape.nd rfl (.inl rfl) (pe_lst pa_nil))
      (pss_cons (ps_for PassesOwn.never rfl (kpit (K := K) rfl (pe_ix (kixs (K := K) rfl) (pv 0) pe_int (fun _ _ => rfl))) (pg_name (i := 5) sc__law_tape.nd rfl (.inl rfl))
      (pss_cons (ps_set (i := 6) sc__law_tape.nd rfl (.inl rfl) (pe_callTy (ktupF (K := K) rfl) (by rfl) B.tuple bt_tuple (pa_cons (pe_slice (ksll (K := K) rfl) (pv 3) po_none (po_some (pe_op op_sub (pe_callB (klen (K := K) rfl) (by rfl) B.len bt_len (pa_cons (pv 5) pa_nil)) pe_int))) pa_nil)))
      (pss_cons (ps_set (i := 3) sc__law_tape.nd rfl (.inl rfl) (pe_slice (ksll (K := K) rfl) (pv 3) (po_some (pe_callB (klen (K := K) rfl) (by rfl) B.len bt_len (pa_cons (pv 6) pa_nil))) po_none))
      (pss_cons (ps_set (i := 7) sc__law_tape.nd rfl (.inl rfl) (pe_lst pa_nil))
      (pss_cons (ps_for PassesOwn.never rfl (kpit (K := K) rfl (pv 5)) (pg_name (i := 8) sc__law_tape.nd rfl (.inl rfl))
      (pss_cons (ps_expr (pe_bm PySem.F.plainAttrs_list PySem.F.slot_list_append PySem.F.type_list_append mt_append (pv 7) (pa_cons (C8.pe_c C__law_tape hr (by omega) rfl (pa_cons (pv 8) (pa_cons (pe_slice (ksll (K := K) rfl) (pv 3) po_none (po_some (C8.pe_c C__law_size hr (by omega) rfl (pa_cons (pv 8) pa_nil)))) pa_nil))) pa_nil)))
      (pss_one (ps_set (i := 3) sc__law_tape.nd rfl (.inl rfl) (pe_slice (ksll (K := K) rfl) (pv 3) (po_some (C8.pe_c C__law_size hr (by omega) rfl (pa_cons (pv 8) pa_nil))) po_none)))))
      (pss_one (ps_expr (pe_bm PySem.F.plainAttrs_list PySem.F.slot_list_append PySem.F.type_list_append mt_append (pv 4) (pa_cons (pe_tupF (pa_cons (pv 6) (pa_cons (pe_callTy (ktupF (K := K) rfl) (by rfl) B.tuple bt_tuple (pa_cons (pv 7) pa_nil)) pa_nil))) pa_nil)))))))))
      (pss_one (ps_ret (pe_tupF (pa_cons (pv 2) (pa_cons (pe_callTy (ktupF (K := K) rfl) (by rfl) B.tuple bt_tuple (pa_cons (pv 4) pa_nil)) pa_nil))))))))),
    fn_run h (fun po => (s_seq (s_set fun _ => (a_b1 u_tupOf (a_pk (a_fz (a_slL (a_pk a_var) ao_none (ao_some (a_b1 u_len (a_pk (a_op pst_pk rok_ix (a_pk (a_op pst_pk rok_ix (a_pk a_var) a_int)) a_int)))))))))
      (s_seq (s_set fun _ => (a_fz (a_slL (a_pk a_var) (ao_some (a_b1 u_len (a_pk a_var))) ao_none)))
      (s_seq (s_setO fun _ => (a_lst a_nil))
      (s_seq (s_for (vs := [5]) (fun _ => (i_tup (a_op pst_pk rok_ix (a_pk a_var) a_int))) (fun _ => (g_name (by decide)))
      (s_seq (s_set fun _ => (a_b1 u_tupOf (a_pk (a_fz (a_slL (a_pk a_var) ao_none (ao_some (a_op pst_rv rok_I0 (a_b1 u_len (a_pk a_var)) a_int)))))))
      (s_seq (s_set fun _ => (a_fz (a_slL (a_pk a_var) (ao_some (a_b1 u_len (a_pk a_var))) ao_none)))
      (s_seq (s_setO fun _ => (a_lst a_nil))
      (s_seq (s_for (vs := [8]) (fun _ => (i_tup a_var)) (fun _ => (g_name (by decide)))
      (s_seq (s_app fun _ => (a_call (a_cons a_var (a_cons (a_fz (a_slL (a_pk a_var) ao_none (ao_some (a_call (a_cons a_var a_nil))))) a_nil))))
      (s_set fun _ => (a_fz (a_slL (a_pk a_var) (ao_some (a_call (a_cons a_var a_nil))) ao_none)))))
      (s_app fun _ => (a_tup (a_cons a_var (a_cons (a_b1 u_tupOf a_peek) a_nil)))))))))
      (s_ret fun _ => (a_tup (a_cons a_var (a_cons (a_b1 u_tupOf a_peek) a_nil))))))))) (fun ds P a => by obtain ⟨_, _, rfl, _⟩ := a; exact Nat.le_of_ble_eq_true rfl) ?_⟩)
  rintro ds P ⟨⟨s, chs⟩, ns, rfl, ⟨so, hl, ok⟩, hp⟩
  rw [clL_s]
  unfold stL tupM
  walk_at "dd"
  rw [List.length_map, cut_to, cut_from, drop_min, ← List.map_take, ← List.map_drop]
  generalize hC : Dat.tup [.tup [.tup (s.us.map .str), .tup (s.eqs.map eqD)], .tup (chs.map fun bs => .tup (bs.map (clL n)))] = C
  refine forA_suf (fun rest env => ∃ (L : List Int) (ts : List (List Int × List (Tp n))) (y5 y6 y7 y8 : Sl), env = [.d C, .d (.lst (ns.map .int)), .d (.tup ((ns.take s.us.length).map .int)), .d (.lst (L.map .int)), .o (ts.map (ptD (tpD n))), y5, y6, y7, y8] ∧ (∀ bs ∈ rest, 0 < bs.length ∧ bs.length ≤ 100 ∧ ∀ b ∈ bs, ClOk n b) ∧ ts ++ tpChs (szC n) (tpC n) rest L = tpChs (szC n) (tpC n) chs (ns.drop s.us.length) ∧ ts.length + rest.length = chs.length) ?_ ?_ chs _ ⟨_, [], _, _, _, _, rfl, ok, rfl, by simp⟩
  · rintro bs rest env ⟨L, ts, y5, y6, y7, y8, rfl, ok, eq, ln⟩ N hN
    obtain ⟨b0, b1, okb⟩ := ok bs List.mem_cons_self
    walk_at "dd"
    rw [List.length_map]
    rw [show ((bs.length : Int) - 1) = ((bs.length - 1 : Nat) : Int) by omega, cut_to, cut_from, drop_min, ← List.map_take, ← List.map_drop]
    refine forA_suf (fun rest' env => ∃ (M : List Int) (us : List (Tp n)) (y8 : Sl), env = [.d C, .d (.lst (ns.map .int)), .d (.tup ((ns.take s.us.length).map .int)), .d (.lst (M.map .int)), .o (ts.map (ptD (tpD n))), .d (.tup (bs.map (clL n))), .d (.tup ((L.take (bs.length - 1)).map .int)), .o (us.map (tpD n)), y8] ∧ (∀ b ∈ rest', ClOk n b) ∧ us ++ tpBs (szC n) (tpC n) rest' M = tpBs (szC n) (tpC n) bs (L.drop (bs.length - 1)) ∧ us.length + rest'.length = bs.length ∧ M.drop (rest'.map (szC n)).sum = L.drop (chSz (szC n) bs)) ?_ ?_ bs _ ⟨_, [], _, rfl, okb, rfl, by simp, by rw [List.drop_drop]; rfl⟩
    · rintro b rest' env ⟨M, us, y8, rfl, okb, eq', ln', dr⟩ N' hN'
      walk_at "dd"
      have ok1 := okb b List.mem_cons_self
      rw [List.length_cons] at ln'
      rw [List.length_map]
      refine ⟨by omega, ?_⟩
      refine ⟨b, rfl, ok1, ?_⟩
      walk_at "dd"
      rw [cut_to, ← List.map_take]
      refine ⟨b, _, rfl, ok1, ?_⟩
      dsimp only
      refine ⟨b, rfl, ok1, ?_⟩
      dsimp only
      rw [cut_from, ← List.map_drop]
      have e1 : us.map (tpD n) ++ [tpD n (tpC n b (M.take (szC n b)))] = (us ++ [tpC n b (M.take (szC n b))]).map (tpD n) := by
        rw [List.map_append]
        rfl
      rw [e1]
      refine hN' _ ⟨_, _, _, rfl, fun b hb => okb b (List.mem_cons_of_mem _ hb), ?_, ?_, ?_⟩
      · rw [List.append_assoc, ← eq']
        rfl
      · rw [List.length_append, List.length_singleton]
        omega
      · rw [← dr, List.drop_drop, List.map_cons, List.sum_cons]
    · rintro env ⟨M, us, y8, rfl, okb, eq', ln', dr⟩
      have eq' : us = tpBs (szC n) (tpC n) bs (L.drop (bs.length - 1)) := by
        rw [← eq']
        exact (List.append_nil us).symm
      have dr : M = L.drop (chSz (szC n) bs) := dr
      walk_at "dd"
      rw [List.length_cons] at ln
      rw [List.length_map]
      refine ⟨by omega, ?_⟩
      have e1 : ts.map (ptD (tpD n)) ++ [Dat.tup [.tup ((L.take (bs.length - 1)).map .int), .tup (us.map (tpD n))]] = (ts ++ [tpCh (szC n) (tpC n) bs (L.take (chSz (szC n) bs))]).map (ptD (tpD n)) := by
        rw [List.map_append, tpCh_eq, ← eq']
        rfl
      rw [e1]
      refine hN _ ⟨M, _, _, _, _, _, rfl, fun b hb => ok b (List.mem_cons_of_mem _ hb), ?_, ?_⟩
      · rw [List.append_assoc, ← eq, dr]
        rfl
      · rw [List.length_append, List.length_singleton]
        omega
  · rintro env ⟨L, ts, y5, y6, y7, y8, rfl, ok, eq, ln⟩
    walk_at "dd"
    have eq : ts = tpChs (szC n) (tpC n) chs (ns.drop s.us.length) := by
      rw [← eq]
      exact (List.append_nil ts).symm
    rw [eq]
    exact hp
theorem rec_law_tape {f : Addr} {fd : FuncData} (F : Fun K "_law_tape" "_law_tape" s__law_tape f fd) (m : mg "_law_tape" = some (.ref f)) (k : PySem.W.keepIn K (.ref f) = true) (b : Binds K fd ["claim", "numbers"] []) (B : Blt mg) (R : ∀ n, C8.Cal P w K mg base (n + 1) "_law_size" (toSp K ca (aspLSz n)) []) :
    ∀ n, C8.Cal P w K mg base (n + 1) "_law_tape" (toSp K ca (aspLTp n)) []
  | 0 => ⟨⟨f, fd, _, [], fn_vac fun _ _ ⟨c, _⟩ => c.elim, m, k, b, .nil⟩⟩
  | n + 1 => ⟨⟨f, fd, _, [], ok_law_tape n F B (R n) (rec_law_tape F m k b B R n), m, k, b, .nil⟩⟩
end

/-! ### the law's plays -/
abbrev s__law_plays : Stmt := top 46
theorem sc__law_plays : FnScope ["group", "claim", "witness", "tape", "challenge", "replies", "firsts", "answers", "k", "branches", "index", "shares", "moves", "place", "inner", "first", "move"] ["group", "claim", "witness", "tape", "challenge"] (defScope s__law_plays) := ⟨rfl, rfl, rfl, by decide +kernel, rfl, by decide +kernel, by decide +kernel⟩
theorem range_get {α : Type} (d : α) (L : List α) : ∀ m, m = L.length → ((List.range m).map fun i => (L[i]?).getD d) = L := fun m e => by
  subst e
  refine List.ext_getElem (by rw [List.length_map, List.length_range]) fun i h1 h2 => ?_
  rw [List.getElem_map, List.getElem_range, List.getElem?_eq_getElem h2]
  rfl
section
variable {P : Program} {w : World} {K : PySem.W.Frag} {mg : Str → Option Value} {base : Heap} {ca : Nat → Addr}
def owD (n : Nat) : Option (Wt n) → Dat
  | none => .non
  | some w => wtD n w
def plO (p q : Int) (n : Nat) (c : Cl n) (ow : Option (Wt n)) (t : Tp n) (x : Int) : Mv n × Ry n :=
  match ow with
  | none => simC p q n c x t
  | some w => plyC p q n c w t x
def OwFit (n : Nat) (c : Cl n) : Option (Wt n) → Prop
  | none => True
  | some w => WtFit n c w
def OwRng (q : Int) (n : Nat) : Option (Wt n) → Prop
  | none => True
  | some w => WtRng q n w
def rplO (q : Int) (n : Nat) (own : List Int) (x : Int) : Option (Wt (n + 1)) → List Int
  | none => own
  | some (vs, _) => dueR q x own vs
def rsO (p q : Int) (n : Nat) (x : Int) (chs : List (List (Cl n))) (ps : List (List Int × List (Tp n))) : Option (Wt (n + 1)) → List (List (Int × (Mv n × Ry n)))
  | none => (chs.zip ps).map fun y => simCh q (simC p q n) x y.1 y.2
  | some (_, pks) => (chs.zip (pks.zip ps)).map fun y => plyCh q (plyC p q n) (simC p q n) x y.1 y.2.1 y.2.2
def pkO {n : Nat} (k : Nat) : Option (Wt (n + 1)) → Option (Nat × Wt n)
  | none => none
  | some (_, pks) => pks[k]?
def chO (p q : Int) (n : Nat) (x : Int) (bs : List (Cl n)) (pt : List Int × List (Tp n)) : Option (Nat × Wt n) → List (Int × (Mv n × Ry n))
  | none => simCh q (simC p q n) x bs pt
  | some pk => plyCh q (plyC p q n) (simC p q n) x bs pk pt
def chIx {n : Nat} (bs : List (Cl n)) : Option (Nat × Wt n) → Nat
  | none => bs.length - 1
  | some pk => pk.1
def inO {n : Nat} (j : Nat) : Option (Nat × Wt n) → Option (Wt n)
  | none => none
  | some pk => if j = pk.1 then some pk.2 else none
theorem rs_snoc {p q : Int} {n : Nat} {x : Int} {chs : List (List (Cl n))} {ps : List (List Int × List (Tp n))} {ow : Option (Wt (n + 1))} {k : Nat} {bs : List (Cl n)} {pt : List Int × List (Tp n)} (h1 : chs[k]? = some bs) (h2 : ps[k]? = some pt) (h3 : ow = none ∨ (pkO k ow).isSome = true) :
    (rsO p q n x chs ps ow).take (k + 1) = (rsO p q n x chs ps ow).take k ++ [chO p q n x bs pt (pkO k ow)] := by
  refine take_snoc ?_
  cases ow with
  | none =>
    show (List.map _ (chs.zip ps))[k]? = _
    rw [List.getElem?_map, (List.getElem?_zip_eq_some (z := (bs, pt))).mpr ⟨h1, h2⟩]
    rfl
  | some wt =>
    obtain ⟨vs, pks⟩ := wt
    have h3 := h3.resolve_left (fun z => by cases z)
    obtain ⟨pk, e⟩ := Option.isSome_iff_exists.mp h3
    have e' : pks[k]? = some pk := e
    show (List.map _ (chs.zip (pks.zip ps)))[k]? = _
    rw [List.getElem?_map, (List.getElem?_zip_eq_some (z := (bs, pk, pt))).mpr ⟨h1, (List.getElem?_zip_eq_some (z := (pk, pt))).mpr ⟨e', h2⟩⟩]
    show _ = some (chO p q n x bs pt (pkO k (some (vs, pks))))
    rw [e]
    rfl
theorem ch_at {p q : Int} {n : Nat} {x : Int} {bs : List (Cl n)} {pt : List Int × List (Tp n)} {op : Option (Nat × Wt n)} {j : Nat} {b : Cl n} {t : Tp n} {c : Int} (h1 : bs[j]? = some b) (h2 : pt.2[j]? = some t) (h3 : (chas q x (chIx bs op) pt.1)[j]? = some c) :
    (chO p q n x bs pt op)[j]? = some (c, plO p q n b (inO j op) t c) := by
  cases op with
  | none =>
    have h3 : (chas q x (bs.length - 1) pt.1)[j]? = some c := h3
    show (List.map _ (bs.zip ((chas q x (bs.length - 1) pt.1).zip pt.2)))[j]? = _
    rw [List.getElem?_map, (List.getElem?_zip_eq_some (z := (b, c, t))).mpr ⟨h1, (List.getElem?_zip_eq_some (z := (c, t))).mpr ⟨h3, h2⟩⟩]
    rfl
  | some pk =>
    have h3 : (chas q x pk.1 pt.1)[j]? = some c := h3
    show (List.mapIdx _ (bs.zip ((chas q x pk.1 pt.1).zip pt.2)))[j]? = _
    rw [List.getElem?_mapIdx, (List.getElem?_zip_eq_some (z := (b, c, t))).mpr ⟨h1, (List.getElem?_zip_eq_some (z := (c, t))).mpr ⟨h3, h2⟩⟩]
    show some (c, if j = pk.1 then plyC p q n b pk.2 t c else simC p q n b c t) = some (c, plO p q n b (if j = pk.1 then some pk.2 else none) t c)
    by_cases e : j = pk.1
    · rw [if_pos e, if_pos e]
      rfl
    · rw [if_neg e, if_neg e]
      rfl
theorem ch_len {p q : Int} {n : Nat} {x : Int} {bs : List (Cl n)} {pt : List Int × List (Tp n)} {op : Option (Nat × Wt n)} (h1 : chIx bs op ≤ pt.1.length) (h2 : pt.1.length + 1 = bs.length) (h3 : pt.2.length = bs.length) : (chO p q n x bs pt op).length = bs.length := by
  have l := chas_len (q := q) (c := x) h1
  cases op with
  | none =>
    show (List.map _ (bs.zip ((chas q x (bs.length - 1) pt.1).zip pt.2))).length = _
    have l : (chas q x (bs.length - 1) pt.1).length = _ := l
    rw [List.length_map, List.length_zip, List.length_zip]
    omega
  | some pk =>
    show (List.mapIdx _ (bs.zip ((chas q x pk.1 pt.1).zip pt.2))).length = _
    have l : (chas q x pk.1 pt.1).length = _ := l
    rw [List.length_mapIdx, List.length_zip, List.length_zip]
    omega
theorem ins_map {q x : Int} {i : Nat} {sh : List Int} : (sh.map Dat.int).take i ++ [Dat.int ((x - sh.sum) % q)] ++ (sh.map Dat.int).drop i = (chas q x i sh).map .int := by
  unfold chas insAt
  rw [List.map_append, List.map_cons, List.map_take, List.map_drop, List.append_assoc]
  rfl
def mrD {n : Nat} (e : Int × (Mv n × Ry n)) : Dat := .tup [mvD n e.2.1, ryD n e.2.2]
def aspLPlays (n : Nat) : ASp := fun ds P => ∃ (p q x : Int) (gs : List Int) (c : Cl n) (ow : Option (Wt n)) (t : Tp n), ds = [lgD p q gs, clL n c, owD n ow, tpD n t, .int x] ∧ (0 < q ∧ q < 2147483648 ∧ 1 < p ∧ p < 2147483648) ∧ ClOk n c ∧ OwFit n c ow ∧ OwRng q n ow ∧ TpFit n c t ∧ P (.tup [mvD n (plO p q n c ow t x).1, ryD n (plO p q n c ow t x).2])
theorem ok_law_plays (n : Nat) {f : Addr} {fd : FuncData} (F : Fun K "_law_plays" "_law_plays" s__law_plays f fd) (B : Blt mg) (C__law_firsts : C8.Cal P w K mg base 5 "_law_firsts" (toSp K ca aspLFirsts) []) (C__law_plays : C8.Cal P w K mg base (n + 6) "_law_plays" (toSp K ca (aspLPlays n)) []) :
    FnOk P w K mg base CX0 (n + 7) f fd ["group", "claim", "witness", "tape", "challenge"] (toSp K ca (aspLPlays (n + 1))) := by
  refine F.ok sc__law_plays (fun vs H Q E h => sp_len (n := 5) (fun ds P a => by obtain ⟨_, _, _, _, _, _, _, rfl, _⟩ := a; rfl) h) (fun cdv A outer s H vs Q E hr h => ⟨_, (pss_cons (ps_set (i := 5) sc__law_plays.nd rfl (.inl rfl) (pe_ix (kixs (K := K) rfl) (pv 3) pe_int (fun _ _ => rfl)))
      (C8.pss_cut (ps_if (pt_cmpR op_notN (pv 2) pe_non (nomark _)) (pss_one (ps_set (i := 5) sc__law_plays.nd rfl (.inl rfl) (pe_callTy (ktupF (K := K) rfl) (by rfl) B.tuple bt_tuple (pa_cons (pe_lc (own := [("k", 8)]) (g := gName 8) (tt := tYes) rfl sc__law_plays.nd (pi_range1 rfl B.range (pa_cons (pe_callB (klen (K := K) rfl) (by rfl) B.len bt_len (pa_cons (pe_ix (kixs (K := K) rfl) (pv 3) pe_int (fun _ _ => rfl)) pa_nil)) pa_nil)) (blkOk_by (N := ["group", "claim", "witness", "tape", "challenge", "replies", "firsts", "answers", "k", "branches", "index", "shares", "moves", "place", "inner", "first", "move"]) (sc := defScope s__law_plays) (by decide +kernel))
        (fun _ _ _ _ _ => (pg_name (i := 8) sc__law_plays.nd rfl (.inl rfl))) (fun _ _ _ _ _ => pts_nil)
        (fun _ _ _ _ _ => (pe_op op_mod (pe_callTy call_int1 (by rfl) B.int bt_int (pa_cons (pe_op op_add (pe_ix (kixs (K := K) rfl) (pe_ix (kixs (K := K) rfl) (pv 3) pe_int (fun _ _ => rfl)) (pv 8) (fun _ _ => rfl)) (pe_op op_mul (pv 4) (pe_ix (kixs (K := K) rfl) (pe_ix (kixs (K := K) rfl) (pv 2) pe_int (fun _ _ => rfl)) (pv 8) (fun _ _ => rfl)))) pa_nil)) (pe_ix (kixs (K := K) rfl) (pv 0) pe_int (fun _ _ => rfl))))) pa_nil)))) pss_nil)
      (pss_cons (ps_set (i := 6) sc__law_plays.nd rfl (.inl rfl) (pe_lst pa_nil))
      (pss_cons (ps_set (i := 7) sc__law_plays.nd rfl (.inl rfl) (pe_lst pa_nil))
      (pss_cons (ps_for PassesOwn.never rfl (pi_range1 rfl B.range (pa_cons (pe_callB (klen (K := K) rfl) (by rfl) B.len bt_len (pa_cons (pe_ix (kixs (K := K) rfl) (pv 1) pe_int (fun _ _ => rfl)) pa_nil)) pa_nil)) (pg_name (i := 8) sc__law_plays.nd rfl (.inl rfl))
      (pss_cons (ps_set (i := 9) sc__law_plays.nd rfl (.inl rfl) (pe_ix (kixs (K := K) rfl) (pe_ix (kixs (K := K) rfl) (pv 1) pe_int (fun _ _ => rfl)) (pv 8) (fun _ _ => rfl)))
      (pss_cons (ps_set (i := 10) sc__law_plays.nd rfl (.inl rfl) (pe_op op_sub (pe_callB (klen (K := K) rfl) (by rfl) B.len bt_len (pa_cons (pv 9) pa_nil)) pe_int))
      (C8.pss_cut (ps_if (pt_cmpR op_notN (pv 2) pe_non (nomark _)) (pss_one (ps_set (i := 10) sc__law_plays.nd rfl (.inl rfl) (pe_ix (kixs (K := K) rfl) (pe_ix (kixs (K := K) rfl) (pe_ix (kixs (K := K) rfl) (pv 2) pe_int (fun _ _ => rfl)) (pv 8) (fun _ _ => rfl)) pe_int (fun _ _ => rfl)))) pss_nil)
      (pss_cons (ps_set (i := 11) sc__law_plays.nd rfl (.inr rfl) (pe_callTy (klist (K := K) rfl) (by rfl) B.list bt_list (pa_cons (pe_ix (kixs (K := K) rfl) (pe_ix (kixs (K := K) rfl) (pe_ix (kixs (K := K) rfl) (pv 3) pe_int (fun _ _ => rfl)) (pv 8) (fun _ _ => rfl)) pe_int (fun _ _ => rfl)) pa_nil)))
      (pss_cons (ps_expr (kbm (K := K) rfl PySem.F.plainAttrs_list PySem.F.slot_list_insert PySem.F.type_list_insert kins (pv 11) (pa_cons (pv 10) (pa_cons (pe_op op_mod (pe_callTy call_int1 (by rfl) B.int bt_int (pa_cons (pe_op op_sub (pv 4) (pe_callB (ksum (K := K) rfl rfl) (by rfl) B.sum bt_sum (pa_cons (pv 11) pa_nil))) pa_nil)) (pe_ix (kixs (K := K) rfl) (pv 0) pe_int (fun _ _ => rfl))) pa_nil))))
      (pss_cons (ps_set (i := 12) sc__law_plays.nd rfl (.inr rfl) (pe_lst pa_nil))
      (pss_cons (ps_for PassesOwn.never rfl (pi_range1 rfl B.range (pa_cons (pe_callB (klen (K := K) rfl) (by rfl) B.len bt_len (pa_cons (pv 9) pa_nil)) pa_nil)) (pg_name (i := 13) sc__law_plays.nd rfl (.inl rfl))
      (pss_cons (ps_set (i := 14) sc__law_plays.nd rfl (.inl rfl) pe_non)
      (C8.pss_cut (ps_if (PW.pt (pw_and (pt_cmpR op_notN (pv 2) pe_non (nomark _)) (pw_and1 (pt_cmpR op_eq (pv 13) (pv 10) (nomark _))))) (pss_one (ps_set (i := 14) sc__law_plays.nd rfl (.inl rfl) (pe_ix (kixs (K := K) rfl) (pe_ix (kixs (K := K) rfl) (pe_ix (kixs (K := K) rfl) (pv 2) pe_int (fun _ _ => rfl)) (pv 8) (fun _ _ => rfl)) pe_int (fun _ _ => rfl)))) pss_nil)
      (pss_one (ps_expr (pe_bm PySem.F.plainAttrs_list PySem.F.slot_list_append PySem.F.type_list_append mt_append (pv 12) (pa_cons (C8.pe_c C__law_plays hr (by omega) rfl (pa_cons (pv 0) (pa_cons (pe_ix (kixs (K := K) rfl) (pv 9) (pv 13) (fun _ _ => rfl)) (pa_cons (pv 14) (pa_cons (pe_ix (kixs (K := K) rfl) (pe_ix (kixs (K := K) rfl) (pe_ix (kixs (K := K) rfl) (pe_ix (kixs (K := K) rfl) (pv 3) pe_int (fun _ _ => rfl)) (pv 8) (fun _ _ => rfl)) pe_int (fun _ _ => rfl)) (pv 13) (fun _ _ => rfl)) (pa_cons (pe_ix (kixs (K := K) rfl) (pv 11) (pv 13) (fun _ _ => rfl)) pa_nil)))))) pa_nil)))))))
      (pss_cons (ps_expr (pe_bm PySem.F.plainAttrs_list PySem.F.slot_list_append PySem.F.type_list_append mt_append (pv 6) (pa_cons (pe_callTy (ktupF (K := K) rfl) (by rfl) B.tuple bt_tuple (pa_cons (pe_lc (own := [("move", 16)]) (g := gName 16) (tt := tYes) rfl sc__law_plays.nd (kpil (K := K) rfl (pv 12)) (blkOk_by (N := ["group", "claim", "witness", "tape", "challenge", "replies", "firsts", "answers", "k", "branches", "index", "shares", "moves", "place", "inner", "first", "move"]) (sc := defScope s__law_plays) (by decide +kernel))
        (fun _ _ _ _ _ => (pg_name (i := 16) sc__law_plays.nd rfl (.inl rfl))) (fun _ _ _ _ _ => pts_nil)
        (fun _ _ _ _ _ => (pe_ix (kixs (K := K) rfl) (pv 16) pe_int (fun _ _ => rfl)))) pa_nil)) pa_nil)))
      (pss_one (ps_expr (pe_bm PySem.F.plainAttrs_list PySem.F.slot_list_append PySem.F.type_list_append mt_append (pv 7) (pa_cons (pe_callTy (ktupF (K := K) rfl) (by rfl) B.tuple bt_tuple (pa_cons (pe_lc (own := [("place", 13)]) (g := gName 13) (tt := tYes) rfl sc__law_plays.nd (pi_range1 rfl B.range (pa_cons (pe_callB (klen (K := K) rfl) (by rfl) B.len bt_len (pa_cons (pv 9) pa_nil)) pa_nil)) (blkOk_by (N := ["group", "claim", "witness", "tape", "challenge", "replies", "firsts", "answers", "k", "branches", "index", "shares", "moves", "place", "inner", "first", "move"]) (sc := defScope s__law_plays) (by decide +kernel))
        (fun _ _ _ _ _ => (pg_name (i := 13) sc__law_plays.nd rfl (.inl rfl))) (fun _ _ _ _ _ => pts_nil)
        (fun _ _ _ _ _ => (pe_tupF (pa_cons (pe_ix (kixs (K := K) rfl) (pv 11) (pv 13) (fun _ _ => rfl)) (pa_cons (pe_ix (kixs (K := K) rfl) (pe_ix (kixs (K := K) rfl) (pv 12) (pv 13) (fun _ _ => rfl)) pe_int (fun _ _ => rfl)) pa_nil))))) pa_nil)) pa_nil)))))))))))))
      (pss_cons (ps_set (i := 15) sc__law_plays.nd rfl (.inl rfl) (C8.pe_c C__law_firsts hr (by omega) rfl (pa_cons (pv 0) (pa_cons (pe_ix (kixs (K := K) rfl) (pv 1) pe_int (fun _ _ => rfl)) (pa_cons (pv 4) (pa_cons (pv 5) pa_nil))))))
      (pss_one (ps_ret (pe_tupF (pa_cons (pe_tupF (pa_cons (pv 15) (pa_cons (pe_callTy (ktupF (K := K) rfl) (by rfl) B.tuple bt_tuple (pa_cons (pv 6) pa_nil)) pa_nil))) (pa_cons (pe_tupF (pa_cons (pv 5) (pa_cons (pe_callTy (ktupF (K := K) rfl) (by rfl) B.tuple bt_tuple (pa_cons (pv 7) pa_nil)) pa_nil))) pa_nil))))))))))),
    fn_run h (fun po => (s_seq (s_set fun _ => (a_op pst_pk rok_ix (a_pk a_var) a_int))
      (s_cut (s_if (fun _ => (a_test (a_op pst_rv rok_notN a_var a_non))) (s_set fun _ => (a_b1 u_tupOf (a_pk (a_fz (a_lc (vs := [8]) (i_ran1 (a_cons (a_b1 u_len (a_pk (a_op pst_pk rok_ix (a_pk a_var) a_int))) a_nil)) (g_name (by decide)) a_yes (a_op pst_rv rok_I (a_b1 u_int (a_op pst_rv rok_I0 (a_op pst_pk rok_ix (a_pk (a_op pst_pk rok_ix (a_pk a_var) a_int)) a_var) (a_op pst_rv rok_I a_var (a_op pst_pk rok_ix (a_pk (a_op pst_pk rok_ix (a_pk a_var) a_int)) a_var)))) (a_op pst_pk rok_ix (a_pk a_var) a_int))))))) s_next)
      (s_seq (s_setO fun _ => (a_lst a_nil))
      (s_seq (s_setO fun _ => (a_lst a_nil))
      (s_seq (s_for (vs := [8]) (fun _ => (i_ran1 (a_cons (a_b1 u_len (a_pk (a_op pst_pk rok_ix (a_pk a_var) a_int))) a_nil))) (fun _ => (g_name (by decide)))
      (s_seq (s_set fun _ => (a_op pst_pk rok_ix (a_pk (a_op pst_pk rok_ix (a_pk a_var) a_int)) a_var))
      (s_seq (s_set fun _ => (a_op pst_rv rok_I0 (a_b1 u_len (a_pk a_var)) a_int))
      (s_cut (s_if (fun _ => (a_test (a_op pst_rv rok_notN a_var a_non))) (s_set fun _ => (a_op pst_pk rok_ix (a_pk (a_op pst_pk rok_ix (a_pk (a_op pst_pk rok_ix (a_pk a_var) a_int)) a_var)) a_int)) s_next)
      (s_seq (s_setO fun _ => (a_b1F u_listOf (a_pk (a_op pst_pk rok_ix (a_pk (a_op pst_pk rok_ix (a_pk (a_op pst_pk rok_ix (a_pk a_var) a_int)) a_var)) a_int))))
      (s_seq (s_ins (fun _ => a_var) (fun _ => (a_op pst_rv rok_I (a_b1 u_int (a_op pst_rv rok_I0 a_var (a_b1 u_sum a_peek))) (a_op pst_pk rok_ix (a_pk a_var) a_int))))
      (s_seq (s_setO fun _ => (a_lst a_nil))
      (s_seq (s_for (vs := [13]) (fun _ => (i_ran1 (a_cons (a_b1 u_len (a_pk a_var)) a_nil))) (fun _ => (g_name (by decide)))
      (s_seq (s_set fun _ => a_non)
      (s_cut (s_if (fun _ => (a_and (a_test (a_op pst_rv rok_notN a_var a_non)) (a_test (a_op pst_rv rok_eq a_var a_var)))) (s_set fun _ => (a_op pst_pk rok_ix (a_pk (a_op pst_pk rok_ix (a_pk (a_op pst_pk rok_ix (a_pk a_var) a_int)) a_var)) a_int)) s_next)
      (s_app fun _ => (a_call (a_cons a_var (a_cons (a_op pst_pk rok_ix (a_pk a_var) a_var) (a_cons a_var (a_cons (a_op pst_pk rok_ix (a_pk (a_op pst_pk rok_ix (a_pk (a_op pst_pk rok_ix (a_pk (a_op pst_pk rok_ix (a_pk a_var) a_int)) a_var)) a_int)) a_var) (a_cons (a_op pst_pk rok_ix a_peek a_var) a_nil))))))))))
      (s_fz (i := 12) (s_seq (s_app fun _ => (a_b1 u_tupOf (a_pk (a_fz (a_lc (vs := [16]) (i_list a_var) (g_name (by decide)) a_yes (a_op pst_pk rok_ix (a_pk a_var) a_int))))))
      (s_app fun _ => (a_b1 u_tupOf (a_pk (a_fz (a_lc (vs := [13]) (i_ran1 (a_cons (a_b1 u_len (a_pk a_var)) a_nil)) (g_name (by decide)) a_yes (a_tup (a_cons (a_op pst_pk rok_ix a_peek a_var) (a_cons (a_op pst_pk rok_ix (a_pk (a_op pst_pk rok_ix (a_pk a_var) a_var)) a_int) a_nil))))))))))))))))))
      (s_seq (s_set fun _ => (a_call (a_cons a_var (a_cons (a_op pst_pk rok_ix (a_pk a_var) a_int) (a_cons a_var (a_cons a_var a_nil))))))
      (s_ret fun _ => (a_tup (a_cons (a_tup (a_cons a_var (a_cons (a_b1 u_tupOf a_peek) a_nil))) (a_cons (a_tup (a_cons a_var (a_cons (a_b1 u_tupOf a_peek) a_nil))) a_nil))))))))))) (fun ds P a => by obtain ⟨_, _, _, _, _, _, _, rfl, _⟩ := a; exact Nat.le_of_ble_eq_true rfl) ?_⟩)
  rintro ds P ⟨p, q, x, gs, ⟨s, chs⟩, ow, ⟨own, ps⟩, rfl, ⟨q0, q1, p0, p1⟩, ⟨so, hl, ok⟩, hw, hr, ⟨t1, t2, t3⟩, hp⟩
  rw [clL_s, tpD_s]
  unfold tupM lgD
  refine seqG fun N hN => ?_
  walk_at "dd"
  subst hN
  generalize hG : Dat.tup [.int p, .int q, .lst (gs.map .int)] = G
  generalize hC : Dat.tup [stL s.us s.eqs, .tup (chs.map fun bs => .tup (bs.map (clL n)))] = C
  have lu := so.lu
  generalize hO : owD (n + 1) ow = O
  refine ⟨fun env => env = [.d G, .d C, .d O, .d (.tup [.tup (own.map .int), .tup (ps.map (ptD (tpD n)))]), .d (.int x), .d (.tup ((rplO q n own x ow).map .int)), .u, .u, .u, .u, .u, .u, .u, .u, .u, .u, .u], ?_, ?_⟩
  · subst hG hC
    cases ow with
    | none =>
      have hO : O = .non := hO.symm
      subst hO
      walk_at "dd"
      rfl
    | some wt =>
      obtain ⟨vs, pks⟩ := wt
      obtain ⟨w1, w2, w3⟩ := hw
      obtain ⟨r1, r2⟩ := hr
      have hO : O = .tup [tupM .int vs, tupM (pkD (wtD n)) pks] := hO.symm
      subst hO
      unfold tupM
      walk_at "dd"
      rw [List.length_map, Int.toNat_natCast]
      refine ⟨by omega, by omega, by rw [List.length_map, List.length_range]; omega, ?_⟩
      have ll : (dueR q x own vs).length = own.length := by
        unfold dueR
        rw [List.length_zipWith]
        omega
      refine lcA_mapL (g := fun i => Dat.int (((dueR q x own vs)[i]?).getD 0)) (fun i hi Q hQ => ?_) ?_
      · have lt := List.mem_range.mp hi
        walk_at "dd"
        refine oa_at (j := i) (Int.zero_add _) (List.getElem?_eq_getElem lt) ?_
        refine oa_at (j := i) (Int.zero_add _) (List.getElem?_eq_getElem (show i < vs.length by omega)) ?_
        have rv := r1 _ (List.getElem_mem (show i < vs.length by omega))
        refine ⟨.inr ⟨by omega, by omega⟩, q0, ?_⟩
        have e1 : ((dueR q x own vs)[i]?).getD 0 = (own[i] + x * vs[i]) % q := by
          unfold dueR
          rw [List.getElem?_zipWith, List.getElem?_eq_getElem lt, List.getElem?_eq_getElem (show i < vs.length by omega)]
          rfl
        rw [e1] at hQ
        exact hQ
      · rw [show ((List.range own.length).map fun i => Dat.int (((dueR q x own vs)[i]?).getD 0)) = (dueR q x own vs).map .int by
          rw [← range_get 0 (dueR q x own vs) own.length ll.symm, List.map_map]
          exact congrArg (fun f => List.map f _) (funext fun i => by
            show _ = Dat.int _
            rw [range_get 0 (dueR q x own vs) own.length ll.symm])]
        rfl
  · rintro env rfl
    refine seqG fun N hN => ?_
    walk_at "dd"
    subst hN
    refine seqG fun N hN => ?_
    walk_at "dd"
    subst hN
    refine seqG fun N hN => ?_
    subst hC
    walk_at "dd"
    rw [List.length_map, Int.toNat_natCast]
    generalize hC : Dat.tup [stL s.us s.eqs, .tup (chs.map fun bs => .tup (bs.map (clL n)))] = C
    generalize hT : Dat.tup [.tup (own.map .int), .tup (ps.map (ptD (tpD n)))] = T
    refine ⟨by omega, by omega, ?_⟩
    refine forA_ran (n := chs.length) (fun k env => ∃ y8 y9 y10 y11 y12 y13 y14 y15 y16, env = [.d G, .d C, .d O, .d T, .d (.int x), .d (.tup ((rplO q n own x ow).map .int)), .o ((((rsO p q n x chs ps ow).take k).map fstR).map (tupM (mvD n))), .o ((((rsO p q n x chs ps ow).take k).map sndR).map (tupM (rpD (ryD n)))), y8, y9, y10, y11, y12, y13, y14, y15, y16]) ⟨_, _, _, _, _, _, _, _, _, rfl⟩ ?_ ?_
    · rintro k env hk ⟨y8, y9, y10, y11, y12, y13, y14, y15, y16, rfl⟩ N' hN'
      have hb : chs[k]? = some chs[k] := List.getElem?_eq_getElem hk
      have hpt : ps[k]? = some ps[k] := List.getElem?_eq_getElem (by omega)
      generalize chs[k] = bs at hb
      generalize ps[k] = pt at hpt
      have okb := ok bs (List.mem_of_getElem? hb)
      have tf := t3 (bs, pt) (List.mem_of_getElem? (List.getElem?_zip_eq_some.mpr ⟨hb, hpt⟩ : (chs.zip ps)[k]? = some (bs, pt)))
      have h3 : ow = none ∨ (pkO k ow).isSome = true := by
        cases ow with
        | none => exact .inl rfl
        | some wt =>
          obtain ⟨vs, pks⟩ := wt
          obtain ⟨w1, w2, w3⟩ := hw
          exact .inr (by show (pks[k]?).isSome = true; rw [List.getElem?_eq_getElem (by omega)]; rfl)
      have snoc := rs_snoc (p := p) (q := q) (x := x) hb hpt h3
      subst hC
      refine seqG fun N hN => ?_
      walk_at "dd"
      refine oa_at (j := k) (Int.zero_add _) hb ?_
      subst hN
      refine seqG fun N hN => ?_
      walk_at "dd"
      subst hN
      rw [List.length_map]
      obtain ⟨b0, b1, okb⟩ := okb
      obtain ⟨f1, f2, f3⟩ := tf
      have f1 : pt.1.length + 1 = bs.length := f1
      have f2 : pt.2.length = bs.length := f2
      have f3 : ∀ y ∈ bs.zip pt.2, TpFit n y.1 y.2 := f3
      generalize hC : Dat.tup [stL s.us s.eqs, .tup (chs.map fun bs => .tup (bs.map (clL n)))] = C at hN' ⊢
      -- what is to know of the pick
      have hop : chIx bs (pkO k ow) < bs.length ∧ ∀ j b, bs[j]? = some b → OwFit n b (inO j (pkO k ow)) ∧ OwRng q n (inO j (pkO k ow)) := by
        cases ow with
        | none => exact ⟨by show bs.length - 1 < _; omega, fun _ _ _ => ⟨trivial, trivial⟩⟩
        | some wt =>
          obtain ⟨vs, pks⟩ := wt
          obtain ⟨w1, w2, w3⟩ := hw
          obtain ⟨r1, r2⟩ := hr
          have e : pks[k]? = some pks[k] := List.getElem?_eq_getElem (by omega)
          generalize pks[k] = pk at e
          have e' : pkO k (some ((vs, pks) : Wt (n + 1))) = some pk := e
          rw [e']
          obtain ⟨b', hb', wf⟩ := w3 (bs, pk) (List.mem_of_getElem? ((List.getElem?_zip_eq_some (z := (bs, pk))).mpr ⟨hb, e⟩))
          have hb' : bs[pk.1]? = some b' := hb'
          refine ⟨(List.getElem?_eq_some_iff.mp hb').1, fun j b h => ?_⟩
          show OwFit n b (if j = pk.1 then some pk.2 else none) ∧ OwRng q n (if j = pk.1 then some pk.2 else none)
          by_cases ej : j = pk.1
          · rw [if_pos ej]
            subst ej
            rw [hb'] at h
            cases h
            exact ⟨wf, r2 pk (List.mem_of_getElem? e)⟩
          · rw [if_neg ej]
            exact ⟨trivial, trivial⟩
      refine ⟨fun env => env = [.d G, .d C, .d O, .d T, .d (.int x), .d (.tup ((rplO q n own x ow).map .int)), .o ((((rsO p q n x chs ps ow).take k).map fstR).map (tupM (mvD n))), .o ((((rsO p q n x chs ps ow).take k).map sndR).map (tupM (rpD (ryD n)))), .d (.int (0 + (k : Int))), .d (.tup (bs.map (clL n))), .d (.int (chIx bs (pkO k ow) : Nat)), y11, y12, y13, y14, y15, y16], ?_, ?_⟩
      · cases ow with
        | none =>
          have hO : O = .non := hO.symm
          subst hO
          walk_at "dd"
          show _ = [_, _, _, _, _, _, _, _, _, _, Sl.d (.int ((bs.length - 1 : Nat) : Int)), _, _, _, _, _, _]
          rw [show ((bs.length - 1 : Nat) : Int) = (bs.length : Int) - 1 by omega]
        | some wt =>
          obtain ⟨vs, pks⟩ := wt
          have hO : O = .tup [tupM .int vs, tupM (pkD (wtD n)) pks] := hO.symm
          subst hO
          unfold tupM
          walk_at "dd"
          obtain ⟨w1, w2, w3⟩ := hw
          have e : pks[k]? = some pks[k] := List.getElem?_eq_getElem (by omega)
          refine oa_at (j := k) (Int.zero_add _) e ?_
          generalize pks[k] = pk at e
          have e' : pkO k (some ((vs, pks) : Wt (n + 1))) = some pk := e
          rw [e']
          unfold pkD
          walk_at "dd"
          rfl
      rintro env rfl
      refine seqG fun N hN => ?_
      subst hT
      walk_at "dd"
      refine oa_at (j := k) (Int.zero_add _) hpt ?_
      generalize hT : Dat.tup [.tup (own.map .int), .tup (ps.map (ptD (tpD n)))] = T
      rw [show ptD (tpD n) pt = Dat.tup [.tup (pt.1.map .int), .tup (pt.2.map (tpD n))] from rfl]
      walk_at "dd"
      subst hN
      refine seqG fun N hN => ?_
      rw [sIns]
      walk_at "dd"
      rw [List.length_map]
      refine ⟨by omega, ⟨by omega, by omega⟩, ?_⟩
      refine ⟨pt.1, rfl, ?_⟩
      subst hG
      walk_at "dd"
      refine ⟨q0, ?_⟩
      rw [Int.toNat_natCast, ins_map]
      generalize hG : Dat.tup [.int p, .int q, .lst (gs.map .int)] = G
      subst hN
      refine seqG fun N hN => ?_
      walk_at "dd"
      subst hN
      refine seqG fun N hN => ?_
      walk_at "dd"
      rw [List.length_map, Int.toNat_natCast]
      refine ⟨by omega, by omega, ?_⟩
      refine forA_ran (n := bs.length) (fun j env => ∃ y13 y14, env = [.d G, .d C, .d O, .d T, .d (.int x), .d (.tup ((rplO q n own x ow).map .int)), .o ((((rsO p q n x chs ps ow).take k).map fstR).map (tupM (mvD n))), .o ((((rsO p q n x chs ps ow).take k).map sndR).map (tupM (rpD (ryD n)))), .d (.int (0 + (k : Int))), .d (.tup (bs.map (clL n))), .d (.int (chIx bs (pkO k ow) : Nat)), .o ((chas q x (chIx bs (pkO k ow)) pt.1).map .int), .o (((chO p q n x bs pt (pkO k ow)).take j).map mrD), y13, y14, y15, y16]) ⟨_, _, rfl⟩ ?_ ?_
      · rintro j env hj ⟨y13, y14, rfl⟩ M hM
        have cl := chas_len (q := q) (c := x) (i := chIx bs (pkO k ow)) (sh := pt.1) (by omega)
        have e1 : bs[j]? = some bs[j] := List.getElem?_eq_getElem hj
        have e2 : pt.2[j]? = some pt.2[j] := List.getElem?_eq_getElem (by omega)
        have e3 : (chas q x (chIx bs (pkO k ow)) pt.1)[j]? = some (chas q x (chIx bs (pkO k ow)) pt.1)[j] := List.getElem?_eq_getElem (by omega)
        generalize bs[j] = b at e1
        generalize pt.2[j] = t at e2
        generalize (chas q x (chIx bs (pkO k ow)) pt.1)[j] = c at e3
        have e4 := ch_at (p := p) e1 e2 e3
        have tk := take_snoc e4
        have hin := hop.2 j b e1
        refine seqG fun N hN => ?_
        walk_at "dd"
        subst hN
        refine ⟨fun env => env = [.d G, .d C, .d O, .d T, .d (.int x), .d (.tup ((rplO q n own x ow).map .int)), .o ((((rsO p q n x chs ps ow).take k).map fstR).map (tupM (mvD n))), .o ((((rsO p q n x chs ps ow).take k).map sndR).map (tupM (rpD (ryD n)))), .d (.int (0 + (k : Int))), .d (.tup (bs.map (clL n))), .d (.int (chIx bs (pkO k ow) : Nat)), .o ((chas q x (chIx bs (pkO k ow)) pt.1).map .int), .o (((chO p q n x bs pt (pkO k ow)).take j).map mrD), .d (.int (0 + (j : Int))), .d (owD n (inO j (pkO k ow))), y15, y16], ?_, ?_⟩
        · cases ow with
          | none =>
            have hO : O = .non := hO.symm
            subst hO
            walk_at "dd"
            rfl
          | some wt =>
            obtain ⟨vs, pks⟩ := wt
            have hO : O = .tup [tupM .int vs, tupM (pkD (wtD n)) pks] := hO.symm
            obtain ⟨w1, w2, w3⟩ := hw
            have e : pks[k]? = some pks[k] := List.getElem?_eq_getElem (by omega)
            generalize pks[k] = pk at e
            have e' : pkO k (some ((vs, pks) : Wt (n + 1))) = some pk := e
            rw [e']
            rw [show chIx bs (some pk) = pk.1 from rfl]
            generalize ((rsO p q n x chs ps (some ((vs, pks) : Wt (n + 1)))).take k).map fstR = fs
            generalize ((rsO p q n x chs ps (some ((vs, pks) : Wt (n + 1)))).take k).map sndR = ss
            generalize (rplO q n own x (some ((vs, pks) : Wt (n + 1)))).map Dat.int = rp
            have hO : O = .tup [.tup (vs.map .int), .tup (pks.map (pkD (wtD n)))] := hO
            subst hO
            generalize hI : owD n (inO j (some pk)) = I
            walk_at "dd"
            refine twoD (fun h => ?_) (fun h => ?_)
            · refine oa_at (j := k) (Int.zero_add _) e ?_
              unfold pkD
              walk_at "dd"
              rw [← hI]
              show _ = [_, _, _, _, _, _, _, _, _, _, _, _, _, _, Sl.d (owD n (if j = pk.1 then some pk.2 else none)), _, _]
              rw [if_pos (by omega)]
              rfl
            · rw [← hI]
              show _ = [_, _, _, _, _, _, _, _, _, _, _, _, _, _, Sl.d (owD n (if j = pk.1 then some pk.2 else none)), _, _]
              rw [if_neg (fun z => h (by omega))]
              rfl
        · rintro env rfl
          walk_at "dd"
          refine ⟨by rw [List.length_map, List.length_take]; omega, ?_⟩
          refine oa_at (j := j) (Int.zero_add _) e1 ?_
          subst hT
          walk_at "dd"
          refine oa_at (j := k) (Int.zero_add _) hpt ?_
          generalize hT : Dat.tup [.tup (own.map .int), .tup (ps.map (ptD (tpD n)))] = T at hM ⊢
          rw [show ptD (tpD n) pt = Dat.tup [.tup (pt.1.map .int), .tup (pt.2.map (tpD n))] from rfl]
          walk_at "dd"
          refine oa_at (j := j) (Int.zero_add _) e2 ?_
          refine oa_at (j := j) (Int.zero_add _) e3 ?_
          refine ⟨p, q, c, gs, b, inO j (pkO k ow), t, by rw [← hG]; rfl, ⟨q0, q1, p0, p1⟩, okb b (List.mem_of_getElem? e1), hin.1, hin.2, f3 _ (List.mem_of_getElem? ((List.getElem?_zip_eq_some (z := (b, t))).mpr ⟨e1, e2⟩)), ?_⟩
          have e5 : ((chO p q n x bs pt (pkO k ow)).take j).map mrD ++ [.tup [mvD n (plO p q n b (inO j (pkO k ow)) t c).1, ryD n (plO p q n b (inO j (pkO k ow)) t c).2]] = ((chO p q n x bs pt (pkO k ow)).take (j + 1)).map mrD := by
            rw [tk, List.map_append]
            rfl
          dsimp only
          rw [e5]
          exact hM _ ⟨_, _, rfl⟩
      · rintro env ⟨y13, y14, rfl⟩
        have cl := ch_len (p := p) (q := q) (x := x) (bs := bs) (pt := pt) (op := pkO k ow) (by omega) f1 f2
        rw [List.take_of_length_le (Nat.le_of_eq cl)]
        subst hN
        walk_at "dd"
        refine ⟨by rw [List.length_map, List.length_map, List.length_take]; omega, by rw [List.length_map]; omega, ?_⟩
        refine lcA_mapL (g := fun e => mvD n e.2.1) (fun e he Q hQ => ?_) ?_
        · unfold mrD
          walk_at "dd"
          exact hQ
        rw [show (bs.map (clL n)).length = bs.length from List.length_map _, Int.toNat_natCast]
        refine ⟨by rw [List.length_map, List.length_map, List.length_take]; omega, by omega, by omega, by rw [List.length_map, List.length_range]; omega, ?_⟩
        have cs := chas_len (q := q) (c := x) (i := chIx bs (pkO k ow)) (sh := pt.1) (by omega)
        generalize hL : (chO p q n x bs pt (pkO k ow)).map (fun e => rpD (ryD n) (e.1, e.2.2)) = L
        have lL : bs.length = L.length := by rw [← hL, List.length_map, cl]
        refine lcA_mapL (g := fun j => (L[j]?).getD .non) (fun j hj Q hQ => ?_) ?_
        · have hj := List.mem_range.mp hj
          have e1 : bs[j]? = some bs[j] := List.getElem?_eq_getElem hj
          have e2 : pt.2[j]? = some pt.2[j] := List.getElem?_eq_getElem (by omega)
          have e3 : (chas q x (chIx bs (pkO k ow)) pt.1)[j]? = some (chas q x (chIx bs (pkO k ow)) pt.1)[j] := List.getElem?_eq_getElem (by omega)
          generalize bs[j] = b at e1
          generalize pt.2[j] = t at e2
          generalize (chas q x (chIx bs (pkO k ow)) pt.1)[j] = c at e3
          have e4 := ch_at (p := p) e1 e2 e3
          walk_at "dd"
          refine oa_at (j := j) (Int.zero_add _) e3 ?_
          refine oa_at (j := j) (Int.zero_add _) e4 ?_
          unfold mrD
          walk_at "dd"
          have e5 : (L[j]?).getD .non = rpD (ryD n) (c, (plO p q n b (inO j (pkO k ow)) t c).2) := by
            rw [← hL, List.getElem?_map, e4]
            rfl
          rw [e5] at hQ
          exact hQ
        rw [range_get Dat.non L bs.length lL, ← hL]
        have e6 : (((rsO p q n x chs ps ow).take k).map fstR).map (tupM (mvD n)) ++ [.tup ((chO p q n x bs pt (pkO k ow)).map fun e => mvD n e.2.1)] = (((rsO p q n x chs ps ow).take (k + 1)).map fstR).map (tupM (mvD n)) := by
          rw [snoc, List.map_append, List.map_append, show ((chO p q n x bs pt (pkO k ow)).map fun e => mvD n e.2.1) = (fstR (chO p q n x bs pt (pkO k ow))).map (mvD n) by unfold fstR; rw [List.map_map]; rfl]
          rfl
        have e7 : (((rsO p q n x chs ps ow).take k).map sndR).map (tupM (rpD (ryD n))) ++ [.tup ((chO p q n x bs pt (pkO k ow)).map fun e => rpD (ryD n) (e.1, e.2.2))] = (((rsO p q n x chs ps ow).take (k + 1)).map sndR).map (tupM (rpD (ryD n))) := by
          rw [snoc, List.map_append, List.map_append, show ((chO p q n x bs pt (pkO k ow)).map fun e => rpD (ryD n) (e.1, e.2.2)) = (sndR (chO p q n x bs pt (pkO k ow))).map (rpD (ryD n)) by unfold sndR; rw [List.map_map]; rfl]
          rfl
        rw [e6, e7]
        subst hC hT hG
        exact hN' _ ⟨_, _, _, _, _, _, _, _, _, rfl⟩
    · rintro env ⟨y8, y9, y10, y11, y12, y13, y14, y15, y16, rfl⟩
      have hp : P (.tup [.tup [.tup ((firsts p q s.us s.eqs x (rplO q n own x ow)).map .int), .tup (((rsO p q n x chs ps ow).map fstR).map (tupM (mvD n)))], .tup [.tup ((rplO q n own x ow).map .int), .tup (((rsO p q n x chs ps ow).map sndR).map (tupM (rpD (ryD n))))]]) := by
        cases ow with
        | none => exact hp
        | some wt => exact hp
      have rl : s.us.length ≤ (rplO q n own x ow).length := by
        cases ow with
        | none => exact Nat.le_of_eq t1.symm
        | some wt =>
          obtain ⟨vs, pks⟩ := wt
          obtain ⟨w1, w2, w3⟩ := hw
          show _ ≤ (dueR q x own vs).length
          unfold dueR
          rw [List.length_zipWith]
          omega
      have rn : (rsO p q n x chs ps ow).take chs.length = rsO p q n x chs ps ow := by
        refine List.take_of_length_le ?_
        cases ow with
        | none =>
          show (List.map _ _).length ≤ _
          rw [List.length_map, List.length_zip]
          omega
        | some wt =>
          obtain ⟨vs, pks⟩ := wt
          show (List.map _ _).length ≤ _
          rw [List.length_map, List.length_zip]
          omega
      rw [rn]
      subst hC hN
      walk_at "dd"
      refine ⟨true, p, q, gs, s.us, s.eqs, x, _, ?_, q0, q1, p0, p1, so, rl, ?_⟩
      · rw [← hG]
        rfl
      exact hp
theorem rec_law_plays {f : Addr} {fd : FuncData} (F : Fun K "_law_plays" "_law_plays" s__law_plays f fd) (m : mg "_law_plays" = some (.ref f)) (k : PySem.W.keepIn K (.ref f) = true) (b : Binds K fd ["group", "claim", "witness", "tape", "challenge"] []) (B : Blt mg) (C__law_firsts : C8.Cal P w K mg base 5 "_law_firsts" (toSp K ca aspLFirsts) []) :
    ∀ n, C8.Cal P w K mg base (n + 6) "_law_plays" (toSp K ca (aspLPlays n)) []
  | 0 => ⟨⟨f, fd, _, [], fn_vac fun _ _ ⟨_, _, _, _, c, _⟩ => c.elim, m, k, b, .nil⟩⟩
  | n + 1 => ⟨⟨f, fd, _, [], ok_law_plays n F B C__law_firsts (rec_law_plays F m k b B C__law_firsts n), m, k, b, .nil⟩⟩
end

/-! ### the law's claims, drawn -/
theorem kInt_b {b : Bool} {P : Dat → Prop} : kInt (.bl b) P = P (.int (if b = true then 1 else 0)) := rfl
/-- so long a tape at most -/
def bdC : Nat → Nat
  | 0 => 0
  | n + 1 => 3 + 2 * (2 + 3 * bdC n)
theorem sum_le {α : Type} {f : α → Nat} {b : Nat} : ∀ (l : List α), (∀ x ∈ l, f x ≤ b) → (l.map f).sum ≤ l.length * b
  | [], _ => Nat.zero_le _
  | x :: l, h => by
    have h1 := sum_le l fun y hy => h y (List.mem_cons_of_mem _ hy)
    have h2 := h x List.mem_cons_self
    rw [List.map_cons, List.sum_cons, List.length_cons, Nat.succ_mul]
    omega
/-- how many of each there are -/
def ClDim : (n : Nat) → Cl n → Prop
  | 0, _ => False
  | n + 1, (s, chs) => s.us.length ≤ 3 ∧ s.eqs.length ≤ 2 ∧ chs.length ≤ 2 ∧ ∀ bs ∈ chs, bs.length ≤ 3 ∧ ∀ b ∈ bs, ClDim n b
/-- what the law draws -/
structure LC (p q : Int) (n : Nat) (c : Cl n) (wt : Wt n) : Prop where
  ok : ClOk n c
  rt : ClRt p q n c
  sat : SatC p q n c wt
  rng : WtRng q n wt
  sz : szC n c ≤ bdC n
  dim : ClDim n c
/-- a claim with other elements -/
theorem false_ok {p q b0 : Int} : ∀ {m : Nat} {c : Cl m}, ClOk m c → ClRt p q m c → ∃ (us : List Str) (eqs : List Eqn) (d : Dat), clL m c = .tup [stL us eqs, d] ∧ eqs.length ≤ 1000 ∧ ∀ eqs', Paired (Fls p q b0) eqs eqs' → ∃ c', .tup [stL us eqs', d] = clL m c' ∧ ClOk m c' ∧ ClRt p q m c' ∧ szC m c' = szC m c ∧ (ClDim m c → ClDim m c')
  | 0, c, _, _ => c.elim
  | m + 1, (s, chs), ⟨so, hl, ok⟩, ⟨rt, hr⟩ => by
    refine ⟨s.us, s.eqs, tupM (tupM (clL m)) chs, rfl, so.le, fun eqs' pr => ⟨(⟨s.us, eqs'⟩, chs), rfl, ⟨fls_so so pr, hl, ok⟩, ⟨fun e he => ?_, hr⟩, rfl, fun ⟨d1, d2, d3⟩ => ⟨d1, by show eqs'.length ≤ 2; rw [paired_len pr]; exact d2, d3⟩⟩⟩
    have gen : ∀ {xs ys : List Eqn}, Paired (Fls p q b0) xs ys → (∀ e ∈ xs, ∀ f ∈ e.2, f.1 ^ q.toNat % p = 1) → ∀ e ∈ ys, ∀ f ∈ e.2, f.1 ^ q.toNat % p = 1 := by
      intro xs ys pr
      induction pr with
      | nil => exact fun _ e he => nomatch he
      | cons a _ ih =>
        intro h e he
        rcases List.mem_cons.mp he with rfl | he
        · rw [a.1]
          exact h _ List.mem_cons_self
        · exact ih (fun e he => h e (List.mem_cons_of_mem _ he)) e he
    exact gen pr rt e he
theorem zip_fs {α β : Type} : ∀ zs : List (α × β), (zs.map (·.1)).zip (zs.map (·.2)) = zs
  | [] => rfl
  | z :: zs => by
    rw [List.map_cons, List.map_cons, List.zip_cons_cons, zip_fs zs]
abbrev s__law_claim : Stmt := top 39
theorem sc__law_claim : FnScope ["pool", "group", "deep", "values", "statement", "choices", "chosen", "k", "count", "index", "branches", "place", "claim", "witness"] ["pool", "group", "deep"] (defScope s__law_claim) := ⟨rfl, rfl, rfl, by decide +kernel, rfl, by decide +kernel, by decide +kernel⟩
section
variable {P : Program} {w : World} {K : PySem.W.Frag} {mg : Str → Option Value} {base : Heap} {ca : Nat → Addr}
def aspLClaim (m : Nat) : ASp := fun ds P => ∃ (p q : Int) (bs : List Int), ds = [.pool, lgD p q bs, .int ((m : Int) - 1)] ∧ GB p q bs ∧ 0 < m ∧ m ≤ 100 ∧ ∀ c wt, LC p q m c wt → P (.tup [clL m c, wtD m wt])
structure ChG (p q : Int) (m : Nat) (x : List (Cl m) × (Nat × Wt m)) : Prop where
  l0 : 0 < x.1.length
  l1 : x.1.length ≤ 3
  sz : ∀ b ∈ x.1, szC m b ≤ bdC m
  ok : ∀ b ∈ x.1, ClOk m b
  rt : ∀ b ∈ x.1, ClRt p q m b
  st : ∃ b, x.1[x.2.1]? = some b ∧ SatC p q m b x.2.2
  rg : WtRng q m x.2.2
  dm : ∀ b ∈ x.1, ClDim m b
theorem lc_mk {p q : Int} {m : Nat} {us : List Str} {eqs : List Eqn} {vs : List Int} {zs : List (List (Cl m) × (Nat × Wt m))} (st : LSt p q us eqs vs 2) (hv : ∀ v ∈ vs, 0 ≤ v ∧ v < q) (lz : zs.length ≤ 2) (hz : ∀ x ∈ zs, ChG p q m x) :
    LC p q (m + 1) (⟨us, eqs⟩, zs.map (·.1)) (vs, zs.map (·.2)) := by
  refine ⟨⟨st.so (by omega), by rw [List.length_map]; omega, fun bs hb => ?_⟩, ⟨fun e he f hf => (st.fu e he f hf).2.2.2, fun bs hb => ?_⟩, ⟨?_, ?_, by rw [List.length_map, List.length_map], fun x hx => ?_⟩, ⟨hv, fun x hx => ?_⟩, ?_, ⟨?_, (by have := st.le; show eqs.length ≤ 2; omega), by rw [List.length_map]; exact lz, fun bs hb => ?_⟩⟩
  · obtain ⟨x, hx, rfl⟩ := List.mem_map.mp hb
    exact ⟨(hz x hx).l0, Nat.le_trans (hz x hx).l1 (by decide), (hz x hx).ok⟩
  · obtain ⟨x, hx, rfl⟩ := List.mem_map.mp hb
    exact (hz x hx).rt
  · show vs.length = us.length
    rw [st.un]
    unfold nms
    rw [List.length_map, List.length_range]
  · show eqs.map (side p q us vs) = eqs.map (·.1)
    exact List.map_congr_left fun e he => (st.el e he).symm
  · rw [zip_fs] at hx
    exact (hz x hx).st
  · obtain ⟨z, hz', rfl⟩ := List.mem_map.mp hx
    exact (hz z hz').rg
  · show us.length + ((zs.map (·.1)).map (chSz (szC m))).sum ≤ 3 + 2 * (2 + 3 * bdC m)
    have l3 := st.l3
    have lu : us.length = vs.length := by rw [st.un]; unfold nms; rw [List.length_map, List.length_range]
    have h1 := sum_le (f := chSz (szC m)) (b := 2 + 3 * bdC m) (zs.map (·.1)) fun bs hb => by
      obtain ⟨z, hz', rfl⟩ := List.mem_map.mp hb
      have h := hz z hz'
      have h2 := sum_le z.1 h.sz
      have h3 := h.l1
      have h4 := Nat.mul_le_mul_right (bdC m) h3
      unfold chSz
      omega
    rw [List.length_map] at h1
    have h5 := Nat.mul_le_mul_right (2 + 3 * bdC m) lz
    omega
  · show us.length ≤ 3
    rw [st.un]
    unfold nms
    rw [List.length_map, List.length_range]
    exact st.l3
  · obtain ⟨z, hz', rfl⟩ := List.mem_map.mp hb
    exact ⟨(hz z hz').l1, (hz z hz').dm⟩
theorem ok_law_claim (m : Nat) {f : Addr} {fd : FuncData} (F : Fun K "_law_claim" "_law_claim" s__law_claim f fd) (B : Blt mg) (C__law_draw : C8.Cal P w K mg base 1 "_law_draw" (toSp K ca aspDraw) []) (C__law_numbers : C8.Cal P w K mg base 2 "_law_numbers" (toSp K ca aspLNumbers) [])
    (C__law_statement : C8.Cal P w K mg base 4 "_law_statement" (toSp K ca aspLStat) []) (C__law_false : C8.Cal P w K mg base 4 "_law_false" (toSp K ca aspLFalse) []) (C__law_claim : C8.Cal P w K mg base (m + 5) "_law_claim" (toSp K ca (aspLClaim m)) []) :
    FnOk P w K mg base CX0 (m + 6) f fd ["pool", "group", "deep"] (toSp K ca (aspLClaim (m + 1))) := by
  refine F.ok sc__law_claim (fun vs H Q E h => sp_len (n := 3) (fun ds P a => by obtain ⟨_, _, _, rfl, _⟩ := a; rfl) h) (fun cdv A outer s H vs Q E hr h => ⟨_, (pss_cons (ps_set (i := 3) sc__law_claim.nd rfl (.inl rfl) (pe_callTy (ktupF (K := K) rfl) (by rfl) B.tuple bt_tuple (pa_cons (C8.pe_c C__law_numbers hr (by omega) rfl (pa_cons (pv 0) (pa_cons (pv 1) (pa_cons (C8.pe_c C__law_draw hr (by omega) rfl (pa_cons (pv 0) (pa_cons pe_int pa_nil))) pa_nil)))) pa_nil)))
      (pss_cons (ps_set (i := 4) sc__law_claim.nd rfl (.inl rfl) (C8.pe_c C__law_statement hr (by omega) rfl (pa_cons (pv 0) (pa_cons (pv 1) (pa_cons (pv 3) (pa_cons pe_int pa_nil))))))
      (pss_cons (ps_set (i := 5) sc__law_claim.nd rfl (.inl rfl) (pe_lst pa_nil))
      (pss_cons (ps_set (i := 6) sc__law_claim.nd rfl (.inl rfl) (pe_lst pa_nil))
      (pss_cons (ps_for PassesOwn.never rfl (pi_range1 rfl B.range (pa_cons (pe_op op_mul (pe_callTy call_int1 (by rfl) B.int bt_int (pa_cons (pe_cmpR op_gt (pv 2) pe_int (nomark _)) pa_nil)) (C8.pe_c C__law_draw hr (by omega) rfl (pa_cons (pv 0) (pa_cons pe_int pa_nil)))) pa_nil)) (pg_name (i := 7) sc__law_claim.nd rfl (.inl rfl))
      (pss_cons (ps_set (i := 8) sc__law_claim.nd rfl (.inl rfl) (pe_op op_add pe_int (C8.pe_c C__law_draw hr (by omega) rfl (pa_cons (pv 0) (pa_cons pe_int pa_nil)))))
      (pss_cons (ps_set (i := 9) sc__law_claim.nd rfl (.inl rfl) (C8.pe_c C__law_draw hr (by omega) rfl (pa_cons (pv 0) (pa_cons (pv 8) pa_nil))))
      (pss_cons (ps_set (i := 10) sc__law_claim.nd rfl (.inl rfl) (pe_lst pa_nil))
      (pss_cons (ps_for PassesOwn.never rfl (pi_range1 rfl B.range (pa_cons (pv 8) pa_nil)) (pg_name (i := 11) sc__law_claim.nd rfl (.inl rfl))
      (pss_cons (ps_asg (C8.pe_c C__law_claim hr (by omega) rfl (pa_cons (pv 0) (pa_cons (pv 1) (pa_cons (pe_op op_sub (pv 2) pe_int) pa_nil)))) (kgtup (K := K) (n := 2) rfl rfl (pgs_cons (pg_name (i := 12) sc__law_claim.nd rfl (.inl rfl)) (pgs_cons (pg_name (i := 13) sc__law_claim.nd rfl (.inl rfl)) pgs_nil))))
      (C8.pss_cut (ps_if (pt_cmpR op_eq (pv 11) (pv 9) (nomark _)) (pss_one (ps_expr (pe_bm PySem.F.plainAttrs_list PySem.F.slot_list_append PySem.F.type_list_append mt_append (pv 6) (pa_cons (pe_tupF (pa_cons (pv 9) (pa_cons (pv 13) pa_nil))) pa_nil)))) (pss_one (ps_if (pt_cmpR op_eq (C8.pe_c C__law_draw hr (by omega) rfl (pa_cons (pv 0) (pa_cons pe_int pa_nil))) pe_int (nomark _)) (pss_one (ps_set (i := 12) sc__law_claim.nd rfl (.inl rfl) (C8.pe_c C__law_false hr (by omega) rfl (pa_cons (pv 0) (pa_cons (pv 1) (pa_cons (pv 12) pa_nil)))))) pss_nil)))
      (pss_one (ps_expr (pe_bm PySem.F.plainAttrs_list PySem.F.slot_list_append PySem.F.type_list_append mt_append (pv 10) (pa_cons (pv 12) pa_nil)))))))
      (pss_one (ps_expr (pe_bm PySem.F.plainAttrs_list PySem.F.slot_list_append PySem.F.type_list_append mt_append (pv 5) (pa_cons (pe_callTy (ktupF (K := K) rfl) (by rfl) B.tuple bt_tuple (pa_cons (pv 10) pa_nil)) pa_nil)))))))))
      (pss_one (ps_ret (pe_tupF (pa_cons (pe_tupF (pa_cons (pv 4) (pa_cons (pe_callTy (ktupF (K := K) rfl) (by rfl) B.tuple bt_tuple (pa_cons (pv 5) pa_nil)) pa_nil))) (pa_cons (pe_tupF (pa_cons (pv 3) (pa_cons (pe_callTy (ktupF (K := K) rfl) (by rfl) B.tuple bt_tuple (pa_cons (pv 6) pa_nil)) pa_nil))) pa_nil)))))))))),
    fn_run h (fun po => (s_seq (s_set fun _ => (a_b1 u_tupOf (a_pk (a_call (a_cons a_var (a_cons a_var (a_cons (a_call (a_cons a_var (a_cons a_int a_nil))) a_nil)))))))
      (s_seq (s_set fun _ => (a_call (a_cons a_var (a_cons a_var (a_cons a_var (a_cons a_int a_nil))))))
      (s_seq (s_setO fun _ => (a_lst a_nil))
      (s_seq (s_setO fun _ => (a_lst a_nil))
      (s_seq (s_for (vs := [7]) (fun _ => (i_ran1 (a_cons (a_op pst_rv rok_I (a_b1 u_int (a_op pst_rv rok_B0 a_var a_int)) (a_call (a_cons a_var (a_cons a_int a_nil)))) a_nil))) (fun _ => (g_name (by decide)))
      (s_seq (s_set fun _ => (a_op pst_rv rok_I0 a_int (a_call (a_cons a_var (a_cons a_int a_nil)))))
      (s_seq (s_set fun _ => (a_call (a_cons a_var (a_cons a_var a_nil))))
      (s_seq (s_setO fun _ => (a_lst a_nil))
      (s_seq (s_for (vs := [11]) (fun _ => (i_ran1 (a_cons a_var a_nil))) (fun _ => (g_name (by decide)))
      (s_seq (s_asg (vs := [12, 13]) (fun _ => (a_call (a_cons a_var (a_cons a_var (a_cons (a_op pst_rv rok_I0 a_var a_int) a_nil))))) (fun _ => (g_tup (g_cons (g_name (by decide)) (g_cons (g_name (by decide)) g_nil tot_name) tot_name))))
      (s_cut (s_if (fun _ => (a_test (a_op pst_rv rok_eq a_var a_var))) (s_app fun _ => (a_tup (a_cons a_var (a_cons a_var a_nil)))) (s_if (fun _ => (a_test (a_op pst_rv rok_eq (a_call (a_cons a_var (a_cons a_int a_nil))) a_int))) (s_set fun _ => (a_call (a_cons a_var (a_cons a_var (a_cons a_var a_nil))))) s_next))
      (s_app fun _ => a_var))))
      (s_app fun _ => (a_b1 u_tupOf a_peek)))))))
      (s_ret fun _ => (a_tup (a_cons (a_tup (a_cons a_var (a_cons (a_b1 u_tupOf a_peek) a_nil))) (a_cons (a_tup (a_cons a_var (a_cons (a_b1 u_tupOf a_peek) a_nil))) a_nil)))))))))) (fun ds P a => by obtain ⟨_, _, _, rfl, _⟩ := a; exact Nat.le_of_ble_eq_true rfl) ?_⟩)
  rintro ds P ⟨p, q, bs, rfl, gb, _, m1, hp⟩
  have p3 := gb.p3
  have pm := gb.pm
  have q3 := gb.q3
  have qm := gb.qm
  rw [show (((m + 1 : Nat) : Int) - 1) = (m : Int) by omega]
  refine seqG fun N hN => ?_
  walk_at "dd"
  refine draw (by omega) (by omega) fun nv n0 n1 => ?_
  refine ⟨p, q, nv, bs, rfl, by omega, by omega, by omega, by omega, fun vs lv hv => ?_⟩
  walk_at "dd"
  subst hN
  refine seqG fun N hN => ?_
  walk_at "dd"
  refine ⟨p, q, bs, vs, 2, rfl, gb, by omega, by omega, by omega, fun us eqs st => ?_⟩
  subst hN
  refine seqG fun N hN => ?_
  walk_at "dd"
  subst hN
  refine seqG fun N hN => ?_
  walk_at "dd"
  subst hN
  refine seqG fun N hN => ?_
  walk_at "dd"
  rw [kInt_b]
  refine draw (by omega) (by omega) fun v v0 v1 => ?_
  walk_at "dd"
  have hT : ∀ T : Int, T = (if decide (0 < (m : Int)) = true then 1 else 0) * v → 0 ≤ T ∧ T ≤ 2 ∧ (0 < T → 0 < m) := fun T e => by
    by_cases h : 0 < (m : Int)
    · rw [decide_eq_true h, if_pos rfl, Int.one_mul] at e
      exact ⟨by omega, by omega, fun _ => by omega⟩
    · rw [decide_eq_false h, if_neg Bool.false_ne_true, Int.zero_mul] at e
      exact ⟨by omega, by omega, fun _ => by omega⟩
  refine ⟨.inr ⟨by omega, by omega⟩, ?_⟩
  generalize hTe : (if decide (0 < (m : Int)) = true then (1 : Int) else 0) * v = T
  obtain ⟨T0, T1, Tm⟩ := hT T hTe.symm
  refine ⟨by omega, by omega, ?_⟩
  refine forA_ran (n := T.toNat) (fun k env => ∃ (zs : List (List (Cl m) × (Nat × Wt m))) (y7 y8 y9 y10 y11 y12 y13 : Sl), env = [.d .pool, .d (lgD p q bs), .d (.int (m : Int)), .d (.tup (vs.map .int)), .d (stL us eqs), .o ((zs.map (·.1)).map (tupM (clL m))), .o ((zs.map (·.2)).map (pkD (wtD m))), y7, y8, y9, y10, y11, y12, y13] ∧ zs.length = k ∧ ∀ x ∈ zs, ChG p q m x) ⟨[], _, _, _, _, _, _, _, rfl, rfl, fun _ h => nomatch h⟩ ?_ ?_
  · rintro k env hk ⟨zs, y7, y8, y9, y10, y11, y12, y13, rfl, lz, hz⟩ N' hN'
    have m0 : 0 < m := Tm (by omega)
    refine seqG fun N hN => ?_
    walk_at "dd"
    refine draw (by omega) (by omega) fun ct c0 c1 => ?_
    rw [kI0_i]
    subst hN
    refine seqG fun N hN => ?_
    walk_at "dd"
    refine draw (by omega) (by omega) fun ix i0 i1 => ?_
    subst hN
    refine seqG fun N hN => ?_
    walk_at "dd"
    subst hN
    refine seqG fun N hN => ?_
    walk_at "dd"
    refine ⟨by omega, by omega, ?_⟩
    refine forA_ran (n := (1 + ct).toNat) (fun j env => ∃ (cs : List (Cl m)) (op : Option (Nat × Wt m)) (y11 y12 y13 : Sl), env = [.d .pool, .d (lgD p q bs), .d (.int (m : Int)), .d (.tup (vs.map .int)), .d (stL us eqs), .o ((zs.map (·.1)).map (tupM (clL m))), .o ((zs.map (·.2) ++ op.toList).map (pkD (wtD m))), .d (.int (0 + (k : Int))), .d (.int (1 + ct)), .d (.int ix), .o (cs.map (clL m)), y11, y12, y13] ∧ cs.length = j ∧ (∀ b ∈ cs, ClOk m b ∧ ClRt p q m b ∧ szC m b ≤ bdC m ∧ ClDim m b) ∧ ((j : Int) ≤ ix → op = none) ∧ (ix < j → ∃ w b, op = some (ix.toNat, w) ∧ cs[ix.toNat]? = some b ∧ SatC p q m b w ∧ WtRng q m w)) ⟨[], none, _, _, _, by rw [Option.toList_none, List.append_nil]; rfl, rfl, fun _ h => (nomatch h), fun _ => rfl, fun h => absurd h (by omega)⟩ ?_ ?_
    · rintro j env hj ⟨cs, op, y11, y12, y13, rfl, lc, hc, o1, o2⟩ M hM
      refine seqG fun N hN => ?_
      walk_at "dd"
      refine ⟨p, q, bs, rfl, gb, m0, by omega, fun c wt lcw => ?_⟩
      walk_at "dd"
      subst hN
      have e0 : ∀ c' : Cl m, (cs ++ [c']).length = j + 1 := fun c' => by rw [List.length_append, lc]; rfl
      -- another place than the index
      have keep : ¬ ((j : Int) = ix) → ∀ c' : Cl m, (((j + 1 : Nat) : Int) ≤ ix → op = none) ∧ (ix < ((j + 1 : Nat) : Int) → ∃ w b, op = some (ix.toNat, w) ∧ (cs ++ [c'])[ix.toNat]? = some b ∧ SatC p q m b w ∧ WtRng q m w) := fun ne c' => by
        refine ⟨fun h => o1 (by omega), fun h => ?_⟩
        obtain ⟨w, b, h1, h2, h3, h4⟩ := o2 (by omega)
        exact ⟨w, b, h1, by rw [List.getElem?_append_left (by omega)]; exact h2, h3, h4⟩
      refine ⟨fun env => ∃ (c' : Cl m) (op' : Option (Nat × Wt m)), env = [.d .pool, .d (lgD p q bs), .d (.int (m : Int)), .d (.tup (vs.map .int)), .d (stL us eqs), .o ((zs.map (·.1)).map (tupM (clL m))), .o ((zs.map (·.2) ++ op'.toList).map (pkD (wtD m))), .d (.int (0 + (k : Int))), .d (.int (1 + ct)), .d (.int ix), .o (cs.map (clL m)), .d (.int (0 + (j : Int))), .d (clL m c'), .d (wtD m wt)] ∧ (ClOk m c' ∧ ClRt p q m c' ∧ szC m c' ≤ bdC m ∧ ClDim m c') ∧ (((j + 1 : Nat) : Int) ≤ ix → op' = none) ∧ (ix < ((j + 1 : Nat) : Int) → ∃ w b, op' = some (ix.toNat, w) ∧ (cs ++ [c'])[ix.toNat]? = some b ∧ SatC p q m b w ∧ WtRng q m w), ?_, ?_⟩
      · walk_at "dd"
        refine twoD (fun h => ?_) (fun h => ?_)
        · have on := o1 (by omega)
          subst on
          rw [show Dat.int ix = Dat.int (ix.toNat : Nat) by rw [Int.toNat_of_nonneg i0]]
          refine ⟨by rw [List.length_map, Option.toList_none, List.append_nil, List.length_map]; omega, c, some (ix.toNat, wt), ?_, ⟨lcw.ok, lcw.rt, lcw.sz, lcw.dim⟩, fun h => absurd h (by omega), fun _ => ⟨wt, c, rfl, ?_, lcw.sat, lcw.rng⟩⟩
          · rw [Option.toList_none, List.append_nil, show (zs.map (·.2) ++ (some (ix.toNat, wt)).toList).map (pkD (wtD m)) = (zs.map (·.2)).map (pkD (wtD m)) ++ [pkD (wtD m) (ix.toNat, wt)] from List.map_append]
            rfl
          · rw [List.getElem?_append_right (by omega), show ix.toNat - cs.length = 0 by omega]
            rfl
        · have kp := keep (by omega)
          refine draw (by omega) (by omega) fun t t0 t1 => ?_
          walk_at "dd"
          obtain ⟨b0, bs', rfl⟩ : ∃ b0 bs', bs = b0 :: bs' := by
            cases bs with
            | nil => exact absurd gb.l1 (by decide)
            | cons b0 bs' => exact ⟨b0, bs', rfl⟩
          refine twoD (fun h0 => ?_) (fun h0 => ?_)
          · obtain ⟨us', eqs1, d, hd, le, fo⟩ := false_ok (b0 := b0) lcw.ok lcw.rt
            rw [hd]
            refine ⟨p, q, b0, bs', us', eqs1, d, rfl, by omega, by omega, by omega, by omega, le, fun eqs' pr => ?_⟩
            obtain ⟨c', hc', ok', rt', sz', dm'⟩ := fo eqs' pr
            rw [hc']
            exact ⟨c', op, rfl, ⟨ok', rt', by rw [sz']; exact lcw.sz, dm' lcw.dim⟩, (kp c').1, (kp c').2⟩
          · exact ⟨c, op, rfl, ⟨lcw.ok, lcw.rt, lcw.sz, lcw.dim⟩, (kp c).1, (kp c).2⟩
      · rintro env ⟨c', op', rfl, hc', o1', o2'⟩
        walk_at "dd"
        refine ⟨by rw [List.length_map]; omega, ?_⟩
        rw [snocM]
        refine hM _ ⟨cs ++ [c'], op', _, _, _, rfl, e0 c', fun b hb => ?_, o1', o2'⟩
        rcases List.mem_append.mp hb with h | h
        · exact hc b h
        · rw [List.mem_singleton.mp h]
          exact hc'
    · rintro env ⟨cs, op, y11, y12, y13, rfl, lc, hc, o1, o2⟩
      obtain ⟨w, b, rfl, hb, st', rg⟩ := o2 (by omega)
      subst hN
      walk_at "dd"
      refine ⟨by rw [List.length_map, List.length_map]; omega, ?_⟩
      have e1 : ((zs.map (·.1)).map (tupM (clL m))) ++ [Dat.tup (cs.map (clL m))] = (((zs ++ [(cs, (ix.toNat, w))]).map (·.1)).map (tupM (clL m))) := by
        rw [List.map_append, List.map_append]
        rfl
      have e2 : ((zs.map (·.2) ++ (some (ix.toNat, w)).toList).map (pkD (wtD m))) = (((zs ++ [(cs, (ix.toNat, w))]).map (·.2)).map (pkD (wtD m))) := by
        rw [show (zs ++ [(cs, (ix.toNat, w))]).map (·.2) = zs.map (·.2) ++ [(ix.toNat, w)] from List.map_append]
        rfl
      rw [e1, e2]
      refine hN' _ ⟨zs ++ [(cs, (ix.toNat, w))], _, _, _, _, _, _, _, rfl, by rw [List.length_append, lz]; rfl, fun x hx => ?_⟩
      rcases List.mem_append.mp hx with h | h
      · exact hz x h
      · rw [List.mem_singleton.mp h]
        exact ⟨by show 0 < cs.length; omega, by show cs.length ≤ 3; omega, fun b h => (hc b h).2.2.1, fun b h => (hc b h).1, fun b h => (hc b h).2.1, ⟨b, hb, st'⟩, rg, fun b h => (hc b h).2.2.2⟩
  · rintro env ⟨zs, y7, y8, y9, y10, y11, y12, y13, rfl, lz, hz⟩
    subst hN
    walk_at "dd"
    exact hp _ _ (lc_mk st hv (by omega) hz)
theorem rec_law_claim {f : Addr} {fd : FuncData} (F : Fun K "_law_claim" "_law_claim" s__law_claim f fd) (mm : mg "_law_claim" = some (.ref f)) (k : PySem.W.keepIn K (.ref f) = true) (b : Binds K fd ["pool", "group", "deep"] []) (B : Blt mg) (C__law_draw : C8.Cal P w K mg base 1 "_law_draw" (toSp K ca aspDraw) []) (C__law_numbers : C8.Cal P w K mg base 2 "_law_numbers" (toSp K ca aspLNumbers) [])
    (C__law_statement : C8.Cal P w K mg base 4 "_law_statement" (toSp K ca aspLStat) []) (C__law_false : C8.Cal P w K mg base 4 "_law_false" (toSp K ca aspLFalse) []) :
    ∀ m, C8.Cal P w K mg base (m + 5) "_law_claim" (toSp K ca (aspLClaim m)) []
  | 0 => ⟨⟨f, fd, _, [], fn_vac fun _ _ ⟨_, _, _, _, _, h, _⟩ => absurd h (Nat.lt_irrefl _), mm, k, b, .nil⟩⟩
  | m + 1 => ⟨⟨f, fd, _, [], ok_law_claim m F B C__law_draw C__law_numbers C__law_statement C__law_false (rec_law_claim F mm k b B C__law_draw C__law_numbers C__law_statement C__law_false m), mm, k, b, .nil⟩⟩
end

/-! ### claims: what follows of what -/
theorem fit_of_sat {p q : Int} : ∀ {n : Nat} {c : Cl n} {wt : Wt n}, SatC p q n c wt → WtFit n c wt
  | 0, _, _, h => h.elim
  | _ + 1, (_, _), (_, _), ⟨h1, _, h3, h4⟩ => ⟨h1, h3, fun x hx => by
    obtain ⟨b, hb, hs⟩ := h4 x hx
    exact ⟨b, hb, fit_of_sat hs⟩⟩
theorem tpBs_fit {q : Int} {n : Nat} (ih : ∀ (c : Cl n) (ns : List Int), ClOk n c → szC n c ≤ ns.length → (∀ v ∈ ns, 0 ≤ v ∧ v < q) → TpFit n c (tpC n c ns) ∧ TpRng q n (tpC n c ns)) :
    ∀ (bs : List (Cl n)) (L : List Int), (∀ b ∈ bs, ClOk n b) → (bs.map (szC n)).sum ≤ L.length → (∀ v ∈ L, 0 ≤ v ∧ v < q) →
      (tpBs (szC n) (tpC n) bs L).length = bs.length ∧ (∀ y ∈ bs.zip (tpBs (szC n) (tpC n) bs L), TpFit n y.1 y.2) ∧ ∀ t ∈ tpBs (szC n) (tpC n) bs L, TpRng q n t
  | [], _, _, _, _ => ⟨rfl, fun _ h => (nomatch h), fun _ h => nomatch h⟩
  | b :: bs, L, ok, hs, hv => by
    rw [List.map_cons, List.sum_cons] at hs
    have h1 := ih b (L.take (szC n b)) (ok b List.mem_cons_self) (by rw [List.length_take]; omega) fun v hv' => hv v (List.mem_of_mem_take hv')
    obtain ⟨i1, i2, i3⟩ := tpBs_fit ih bs (L.drop (szC n b)) (fun b hb => ok b (List.mem_cons_of_mem _ hb)) (by rw [List.length_drop]; omega) fun v hv' => hv v (List.mem_of_mem_drop hv')
    refine ⟨congrArg (· + 1) i1, fun y hy => ?_, fun t ht => ?_⟩
    · rcases List.mem_cons.mp (show y ∈ (b, tpC n b (L.take (szC n b))) :: bs.zip (tpBs (szC n) (tpC n) bs (L.drop (szC n b))) from hy) with rfl | h
      · exact h1.1
      · exact i2 y h
    · rcases List.mem_cons.mp (show t ∈ tpC n b (L.take (szC n b)) :: tpBs (szC n) (tpC n) bs (L.drop (szC n b)) from ht) with rfl | h
      · exact h1.2
      · exact i3 t h
theorem tpChs_fit {q : Int} {n : Nat} (ih : ∀ (c : Cl n) (ns : List Int), ClOk n c → szC n c ≤ ns.length → (∀ v ∈ ns, 0 ≤ v ∧ v < q) → TpFit n c (tpC n c ns) ∧ TpRng q n (tpC n c ns)) :
    ∀ (chs : List (List (Cl n))) (L : List Int), (∀ bs ∈ chs, 0 < bs.length ∧ ∀ b ∈ bs, ClOk n b) → (chs.map (chSz (szC n))).sum ≤ L.length → (∀ v ∈ L, 0 ≤ v ∧ v < q) →
      (tpChs (szC n) (tpC n) chs L).length = chs.length ∧ (∀ x ∈ chs.zip (tpChs (szC n) (tpC n) chs L), x.2.1.length + 1 = x.1.length ∧ x.2.2.length = x.1.length ∧ ∀ y ∈ x.1.zip x.2.2, TpFit n y.1 y.2) ∧ ∀ x ∈ tpChs (szC n) (tpC n) chs L, (∀ v ∈ x.1, 0 ≤ v ∧ v < q) ∧ ∀ t ∈ x.2, TpRng q n t
  | [], _, _, _, _ => ⟨rfl, fun _ h => (nomatch h), fun _ h => nomatch h⟩
  | bs :: chs, L, ok, hs, hv => by
    rw [List.map_cons, List.sum_cons] at hs
    obtain ⟨b0, okb⟩ := ok bs List.mem_cons_self
    obtain ⟨i1, i2, i3⟩ := tpChs_fit ih chs (L.drop (chSz (szC n) bs)) (fun b hb => ok b (List.mem_cons_of_mem _ hb)) (by rw [List.length_drop]; omega) fun v hv' => hv v (List.mem_of_mem_drop hv')
    have hc : chSz (szC n) bs = (bs.length - 1) + (bs.map (szC n)).sum := rfl
    obtain ⟨j1, j2, j3⟩ := tpBs_fit ih bs (L.drop (bs.length - 1)) okb (by rw [List.length_drop]; omega) fun v hv' => hv v (List.mem_of_mem_drop hv')
    have e : tpChs (szC n) (tpC n) (bs :: chs) L = (L.take (bs.length - 1), tpBs (szC n) (tpC n) bs (L.drop (bs.length - 1))) :: tpChs (szC n) (tpC n) chs (L.drop (chSz (szC n) bs)) := by
      rw [← tpCh_eq]
      rfl
    rw [e]
    refine ⟨congrArg (· + 1) i1, fun y hy => ?_, fun t ht => ?_⟩
    · rcases List.mem_cons.mp (show y ∈ (bs, _) :: chs.zip (tpChs (szC n) (tpC n) chs (L.drop (chSz (szC n) bs))) from hy) with rfl | h
      · exact ⟨by show (L.take (bs.length - 1)).length + 1 = bs.length; rw [List.length_take]; omega, j1, j2⟩
      · exact i2 y h
    · rcases List.mem_cons.mp ht with rfl | h
      · exact ⟨fun v hv' => hv v (List.mem_of_mem_take hv'), j3⟩
      · exact i3 t h
theorem tp_fit {q : Int} : ∀ {n : Nat} (c : Cl n) (ns : List Int), ClOk n c → szC n c ≤ ns.length → (∀ v ∈ ns, 0 ≤ v ∧ v < q) → TpFit n c (tpC n c ns) ∧ TpRng q n (tpC n c ns)
  | 0, c, _, _, _, _ => c.elim
  | n + 1, (s, chs), ns, ⟨_, _, ok⟩, hs, hv => by
    have hs : s.us.length + (chs.map (chSz (szC n))).sum ≤ ns.length := hs
    obtain ⟨i1, i2, i3⟩ := tpChs_fit (fun c ns => tp_fit c ns) chs (ns.drop s.us.length) (fun bs hb => ⟨(ok bs hb).1, (ok bs hb).2.2⟩) (by rw [List.length_drop]; omega) fun v hv' => hv v (List.mem_of_mem_drop hv')
    exact ⟨⟨by show (ns.take s.us.length).length = _; rw [List.length_take]; omega, i1, i2⟩, ⟨fun v hv' => hv v (List.mem_of_mem_take hv'), i3⟩⟩

theorem due_zero {q : Int} {ts vs : List Int} (h : ∀ v ∈ ts, 0 ≤ v ∧ v < q) (l : ts.length = vs.length) : dueR q 0 ts vs = ts := by
  unfold dueR
  refine List.ext_getElem (by rw [List.length_zipWith]; omega) fun i h1 h2 => ?_
  rw [List.getElem_zipWith, Int.zero_mul, Int.add_zero]
  have b := h _ (List.getElem_mem h2)
  exact Int.emod_eq_of_lt b.1 b.2
theorem due_rng {q x : Int} (q0 : 0 < q) {ts vs : List Int} : ∀ v ∈ dueR q x ts vs, 0 ≤ v ∧ v < q := fun v hv => by
  unfold dueR at hv
  obtain ⟨i, hi, e⟩ := List.mem_iff_getElem.mp hv
  rw [List.getElem_zipWith] at e
  rw [← e]
  exact ⟨Int.emod_nonneg _ (by omega), Int.emod_lt_of_pos _ q0⟩
theorem due_len {q x : Int} {ts vs : List Int} (h : ts.length = vs.length) : (dueR q x ts vs).length = ts.length := by
  unfold dueR
  rw [List.length_zipWith]
  omega
theorem chas_ne {q c c' : Int} {i j : Nat} {sh : List Int} (hi : i ≤ sh.length) (h : j ≠ i) : (chas q c i sh)[j]? = (chas q c' i sh)[j]? := by
  unfold chas insAt
  have lt : (sh.take i).length = i := by rw [List.length_take]; omega
  by_cases hj : j < i
  · rw [List.getElem?_append_left (by omega), List.getElem?_append_left (by omega)]
  · obtain ⟨d, rfl⟩ : ∃ d, j = i + (d + 1) := ⟨j - i - 1, by omega⟩
    rw [List.getElem?_append_right (by omega), List.getElem?_append_right (by omega), lt, show i + (d + 1) - i = d + 1 by omega, List.getElem?_cons_succ, List.getElem?_cons_succ]
theorem chas_sum {q c : Int} {i : Nat} {sh : List Int} : (chas q c i sh).sum % q = c % q := by
  unfold chas insAt
  have e : sh.sum = (sh.take i).sum + (sh.drop i).sum := by rw [← List.sum_append, List.take_append_drop]
  rw [List.sum_append, List.sum_cons, show (sh.take i).sum + ((c - sh.sum) % q + (sh.drop i).sum) = (c - sh.sum) % q + sh.sum by omega, Int.emod_add_emod]
  congr 1
  omega
theorem chas_rng {q c : Int} {i : Nat} {sh : List Int} (q0 : 0 < q) (h : ∀ v ∈ sh, 0 ≤ v ∧ v < q) : ∀ v ∈ chas q c i sh, 0 ≤ v ∧ v < q := fun v hv => by
  unfold chas insAt at hv
  rcases List.mem_append.mp hv with h1 | h1
  · exact h v (List.mem_of_mem_take h1)
  · rcases List.mem_cons.mp h1 with rfl | h1
    · exact ⟨Int.emod_nonneg _ (by omega), Int.emod_lt_of_pos _ q0⟩
    · exact h v (List.mem_of_mem_drop h1)
def OwSat (p q : Int) (n : Nat) (c : Cl n) : Option (Wt n) → Prop
  | none => True
  | some w => SatC p q n c w
theorem rs_at {p q : Int} {n : Nat} {x : Int} {chs : List (List (Cl n))} {ps : List (List Int × List (Tp n))} {ow : Option (Wt (n + 1))} {k : Nat} {l : List (Int × (Mv n × Ry n))} (h : (rsO p q n x chs ps ow)[k]? = some l) :
    ∃ bs pt, chs[k]? = some bs ∧ ps[k]? = some pt ∧ (ow = none ∨ (pkO k ow).isSome = true) ∧ l = chO p q n x bs pt (pkO k ow) := by
  cases ow with
  | none =>
    have h : (List.map (fun y => simCh q (simC p q n) x y.1 y.2) (chs.zip ps))[k]? = some l := h
    rw [List.getElem?_map] at h
    obtain ⟨⟨bs, pt⟩, e, rfl⟩ := Option.map_eq_some_iff.mp h
    obtain ⟨e1, e2⟩ := (List.getElem?_zip_eq_some (z := (bs, pt))).mp e
    exact ⟨bs, pt, e1, e2, .inl rfl, rfl⟩
  | some wt =>
    obtain ⟨vs, pks⟩ := wt
    have h : (List.map (fun y => plyCh q (plyC p q n) (simC p q n) x y.1 y.2.1 y.2.2) (chs.zip (pks.zip ps)))[k]? = some l := h
    rw [List.getElem?_map] at h
    obtain ⟨⟨bs, pk, pt⟩, e, rfl⟩ := Option.map_eq_some_iff.mp h
    obtain ⟨e1, e2⟩ := (List.getElem?_zip_eq_some (z := (bs, pk, pt))).mp e
    obtain ⟨e2, e3⟩ := (List.getElem?_zip_eq_some (z := (pk, pt))).mp e2
    have e2 : pkO k (some ((vs, pks) : Wt (n + 1))) = some pk := e2
    refine ⟨bs, pt, e1, e3, .inr (by rw [e2]; rfl), ?_⟩
    rw [e2]
    rfl
theorem pl_s {p q : Int} {n : Nat} (s : Stm) (chs : List (List (Cl n))) (ow : Option (Wt (n + 1))) (own : List Int) (ps : List (List Int × List (Tp n))) (x : Int) :
    plO p q (n + 1) (s, chs) ow (own, ps) x = ((firsts p q s.us s.eqs x (rplO q n own x ow), (rsO p q n x chs ps ow).map fstR), (rplO q n own x ow, (rsO p q n x chs ps ow).map sndR)) := by
  cases ow with
  | none => rfl
  | some wt => rfl
theorem rs_len {p q : Int} {n : Nat} {x : Int} {s : Stm} {chs : List (List (Cl n))} {ps : List (List Int × List (Tp n))} {ow : Option (Wt (n + 1))} (h : ps.length = chs.length) (hw : OwFit (n + 1) (s, chs) ow) : (rsO p q n x chs ps ow).length = chs.length := by
  cases ow with
  | none =>
    show (List.map _ (chs.zip ps)).length = _
    rw [List.length_map, List.length_zip]
    omega
  | some wt =>
    obtain ⟨vs, pks⟩ := wt
    obtain ⟨w1, w2, w3⟩ := hw
    show (List.map _ (chs.zip (pks.zip ps))).length = _
    rw [List.length_map, List.length_zip, List.length_zip]
    omega
theorem op_sat {p q : Int} {n : Nat} {s : Stm} {chs : List (List (Cl n))} {ow : Option (Wt (n + 1))} {k : Nat} {bs : List (Cl n)} (hs : OwSat p q (n + 1) (s, chs) ow) (hb : chs[k]? = some bs) (b0 : 0 < bs.length) (h3 : ow = none ∨ (pkO k ow).isSome = true) :
    chIx bs (pkO k ow) < bs.length ∧ ∀ j b, bs[j]? = some b → OwSat p q n b (inO j (pkO k ow)) := by
  cases ow with
  | none => exact ⟨by show bs.length - 1 < _; omega, fun _ _ _ => trivial⟩
  | some wt =>
    obtain ⟨vs, pks⟩ := wt
    obtain ⟨pk, e⟩ := Option.isSome_iff_exists.mp (h3.resolve_left fun z => by cases z)
    rw [e]
    have e : pks[k]? = some pk := e
    obtain ⟨w1, w2, w3, w4⟩ := hs
    obtain ⟨b', hb', wf⟩ := w4 (bs, pk) (List.mem_of_getElem? ((List.getElem?_zip_eq_some (z := (bs, pk))).mpr ⟨hb, e⟩))
    have hb' : bs[pk.1]? = some b' := hb'
    refine ⟨(List.getElem?_eq_some_iff.mp hb').1, fun j b h => ?_⟩
    show OwSat p q n b (if j = pk.1 then some pk.2 else none)
    by_cases ej : j = pk.1
    · rw [if_pos ej]
      subst ej
      rw [hb'] at h
      cases h
      exact wf
    · rw [if_neg ej]
      trivial
theorem ch_fst {p q : Int} {n : Nat} {x : Int} {bs : List (Cl n)} {pt : List Int × List (Tp n)} {op : Option (Nat × Wt n)} (h1 : chIx bs op ≤ pt.1.length) (h2 : pt.1.length + 1 = bs.length) (h3 : pt.2.length = bs.length) : (chO p q n x bs pt op).map (·.1) = chas q x (chIx bs op) pt.1 := by
  have l := chas_len (q := q) (c := x) h1
  have l2 := ch_len (p := p) (q := q) (x := x) h1 h2 h3
  refine List.ext_getElem? fun j => ?_
  by_cases hj : j < bs.length
  · rw [List.getElem?_map, ch_at (List.getElem?_eq_getElem hj) (List.getElem?_eq_getElem (by omega)) (List.getElem?_eq_getElem (by omega)), List.getElem?_eq_getElem (by omega)]
    rfl
  · rw [List.getElem?_eq_none (by rw [List.length_map]; omega), List.getElem?_eq_none (by omega)]
theorem fits_pl {p q : Int} (q1 : 1 < q) (hp : 1 < p) : ∀ {n : Nat} (c : Cl n) (ow : Option (Wt n)) (t : Tp n) (x : Int), ClOk n c → OwSat p q n c ow → TpFit n c t → TpRng q n t → 0 ≤ x → x < q →
    FitsC p q n c (plO p q n c ow t x).1 x (plO p q n c ow t x).2 ∧ MvB n (plO p q n c ow t x).1 ∧ RyB n (plO p q n c ow t x).2
  | 0, c, _, _, _, _, _, _, _, _, _ => c.elim
  | n + 1, (s, chs), ow, (own, ps), x, ⟨so, hl, ok⟩, hs, ⟨t1, t2, t3⟩, ⟨g1, g2⟩, x0, x1 => by
    have hw : OwFit (n + 1) (s, chs) ow := by
      cases ow with
      | none => trivial
      | some wt => exact fit_of_sat hs
    have lr := rs_len (p := p) (q := q) (x := x) t2 hw
    have rl : (rplO q n own x ow).length = s.us.length := by
      cases ow with
      | none => exact t1
      | some wt =>
        obtain ⟨vs, pks⟩ := wt
        obtain ⟨w1, w2, w3⟩ := hw
        exact (due_len (by omega)).trans t1
    have rr : ∀ r ∈ rplO q n own x ow, 0 ≤ r ∧ r < q := by
      cases ow with
      | none => exact g1
      | some wt => exact due_rng (by omega)
    have key : ∀ (k : Nat) (l : List (Int × (Mv n × Ry n))), (rsO p q n x chs ps ow)[k]? = some l → ∃ bs : List (Cl n), chs[k]? = some bs ∧ l.length = bs.length ∧ bs.length ≤ 100 ∧ (l.map (·.1)).sum % q = x ∧ ∀ (j : Nat) (e : Int × (Mv n × Ry n)), l[j]? = some e → ∃ b, bs[j]? = some b ∧ FitsC p q n b e.2.1 e.1 e.2.2 ∧ MvB n e.2.1 ∧ RyB n e.2.2 := by
      intro k l h
      obtain ⟨bs, pt, e1, e2, e3, rfl⟩ := rs_at h
      obtain ⟨b0, b1, okb⟩ := ok bs (List.mem_of_getElem? e1)
      obtain ⟨s1, s2⟩ := op_sat hs e1 b0 e3
      obtain ⟨f1, f2, f3⟩ := t3 (bs, pt) (List.mem_of_getElem? ((List.getElem?_zip_eq_some (z := (bs, pt))).mpr ⟨e1, e2⟩))
      have f1 : pt.1.length + 1 = bs.length := f1
      have f2 : pt.2.length = bs.length := f2
      obtain ⟨g3, g4⟩ := g2 pt (List.mem_of_getElem? e2)
      have cl := ch_len (p := p) (q := q) (x := x) (op := pkO k ow) (by omega) f1 f2
      refine ⟨bs, e1, cl, b1, ?_, fun j e he => ?_⟩
      · rw [ch_fst (by omega) f1 f2, chas_sum]
        exact Int.emod_eq_of_lt x0 x1
      · have hj := (List.getElem?_eq_some_iff.mp he).1
        rw [cl] at hj
        have c1 := chas_len (q := q) (c := x) (i := chIx bs (pkO k ow)) (sh := pt.1) (by omega)
        have h1 : bs[j]? = some bs[j] := List.getElem?_eq_getElem hj
        have h2 : pt.2[j]? = some pt.2[j] := List.getElem?_eq_getElem (by omega)
        have h3 : (chas q x (chIx bs (pkO k ow)) pt.1)[j]? = some (chas q x (chIx bs (pkO k ow)) pt.1)[j] := List.getElem?_eq_getElem (by omega)
        generalize bs[j] = b at h1
        generalize pt.2[j] = t at h2
        generalize (chas q x (chIx bs (pkO k ow)) pt.1)[j] = c at h3
        rw [ch_at (p := p) h1 h2 h3] at he
        cases he
        have rc := chas_rng (by omega) g3 c (List.mem_of_getElem? h3)
        exact ⟨b, h1, fits_pl q1 hp b _ t c (okb b (List.mem_of_getElem? h1)) (s2 j b h1) (f3 _ (List.mem_of_getElem? ((List.getElem?_zip_eq_some (z := (b, t))).mpr ⟨h1, h2⟩))) (g4 t (List.mem_of_getElem? h2)) rc.1 rc.2⟩
    have lu := so.lu
    have le := so.le
    rw [pl_s]
    refine ⟨⟨rl, by rw [List.length_map]; exact lr, by rw [List.length_map]; exact lr, ⟨x0, x1⟩, rr, rfl, ?_⟩, ⟨?_, by rw [List.length_map]; omega, ?_⟩, ⟨by omega, by rw [List.length_map]; omega, ?_⟩⟩
    · rintro ⟨bs, mv, an⟩ hx
      obtain ⟨k, hk⟩ := List.mem_iff_getElem?.mp hx
      obtain ⟨k1, k2⟩ := (List.getElem?_zip_eq_some (z := (bs, mv, an))).mp hk
      obtain ⟨k2, k3⟩ := (List.getElem?_zip_eq_some (z := (mv, an))).mp k2
      rw [List.getElem?_map] at k2 k3
      obtain ⟨l, e, rfl⟩ := Option.map_eq_some_iff.mp k2
      rw [e] at k3
      cases k3
      obtain ⟨bs', e1, e2, e3, e4, e5⟩ := key k l e
      rw [k1] at e1
      cases e1
      refine ⟨(List.length_map _).trans e2, (List.length_map _).trans e2, ?_, ?_⟩
      · show ((sndR l).map (·.1)).sum % q = x
        unfold sndR
        rw [List.map_map]
        exact e4
      · rintro ⟨b, m, r⟩ hy
        obtain ⟨j, hj⟩ := List.mem_iff_getElem?.mp hy
        obtain ⟨j1, j2⟩ := (List.getElem?_zip_eq_some (z := (b, m, r))).mp hj
        obtain ⟨i2, i3⟩ := (List.getElem?_zip_eq_some (z := (m, r))).mp j2
        have j3 : (l.map fun x => x.2.1)[j]? = some m := i2
        have j4 : (l.map fun x => (x.1, x.2.2))[j]? = some r := i3
        rw [List.getElem?_map] at j3 j4
        obtain ⟨e', h, hm⟩ := Option.map_eq_some_iff.mp j3
        rw [h] at j4
        cases j4
        subst hm
        obtain ⟨b', h1, h2, _⟩ := e5 j e' h
        have j1 : bs[j]? = some b := j1
        rw [j1] at h1
        cases h1
        exact h2
    · show (firsts p q s.us s.eqs x _).length ≤ 1000
      unfold firsts
      rw [List.length_map]
      omega
    · rintro l hx
      obtain ⟨l', hl', rfl⟩ := List.mem_map.mp hx
      obtain ⟨k, hk⟩ := List.mem_iff_getElem?.mp hl'
      obtain ⟨bs, e1, e2, e3, e4, e5⟩ := key k l' hk
      refine ⟨by unfold fstR; rw [List.length_map]; omega, fun m hm => ?_⟩
      obtain ⟨e, he, rfl⟩ := List.mem_map.mp hm
      obtain ⟨j, hj⟩ := List.mem_iff_getElem?.mp he
      obtain ⟨b, _, _, h, _⟩ := e5 j e hj
      exact h
    · rintro l hx
      obtain ⟨l', hl', rfl⟩ := List.mem_map.mp hx
      obtain ⟨k, hk⟩ := List.mem_iff_getElem?.mp hl'
      obtain ⟨bs, e1, e2, e3, e4, e5⟩ := key k l' hk
      refine ⟨by unfold sndR; rw [List.length_map]; omega, fun m hm => ?_⟩
      obtain ⟨e, he, rfl⟩ := List.mem_map.mp hm
      obtain ⟨j, hj⟩ := List.mem_iff_getElem?.mp he
      obtain ⟨b, _, _, _, h⟩ := e5 j e hj
      exact h

theorem fst_pl {p q : Int} (q1 : 1 < q) (hp : 1 < p) : ∀ {n : Nat} (c : Cl n) (wt : Wt n) (t : Tp n) (x : Int), ClOk n c → ClRt p q n c → SatC p q n c wt → TpFit n c t → TpRng q n t → fstC p q n c wt t = (plyC p q n c wt t x).1
  | 0, c, _, _, _, _, _, _, _, _ => c.elim
  | n + 1, (s, chs), (vs, pks), (own, ps), x, ⟨so, hl, ok⟩, ⟨rt, rtc⟩, ⟨w1, w2, w3, w4⟩, ⟨t1, t2, t3⟩, ⟨g1, g2⟩ => by
    show (firsts p q s.us s.eqs 0 own, (chs.zip (pks.zip ps)).map fun x => fstCh q (fstC p q n) (simC p q n) x.1 x.2.1 x.2.2) = (firsts p q s.us s.eqs x (dueR q x own vs), ((chs.zip (pks.zip ps)).map fun y => plyCh q (plyC p q n) (simC p q n) x y.1 y.2.1 y.2.2).map fstR)
    have hf : ∀ e ∈ s.eqs, ∀ f ∈ e.2, f.2 ∈ s.us ∧ f.1 ^ q.toNat % p = 1 := fun e he f hf => ⟨so.fu e he f hf, rt e he f hf⟩
    have he : ∀ e ∈ s.eqs, e.1 = side p q s.us vs e := fun e h => (List.map_inj_left.mp (show s.eqs.map (side p q s.us vs) = s.eqs.map (·.1) from w2) e h).symm
    have e1 := firsts_due (c := 0) (ts := own) q1 hp hf (by omega) (by omega) he
    have e2 := firsts_due (c := x) (ts := own) q1 hp hf (by omega) (by omega) he
    rw [due_zero g1 (by omega)] at e1
    rw [e1, e2, List.map_map]
    refine congrArg (Prod.mk _) (List.map_congr_left fun y hy => ?_)
    obtain ⟨bs, pk, pt⟩ := y
    have m1 := (zip_mem3 hy).1
    have m2 := (zip_mem3 hy).2
    obtain ⟨b0, b1, okb⟩ := ok bs (List.of_mem_zip m1).1
    obtain ⟨f1, f2, f3⟩ := t3 (bs, pt) m2
    have f1 : pt.1.length + 1 = bs.length := f1
    have f2 : pt.2.length = bs.length := f2
    have f3 : ∀ y ∈ bs.zip pt.2, TpFit n y.1 y.2 := f3
    obtain ⟨g3, g4⟩ := g2 pt (List.of_mem_zip m2).2
    obtain ⟨b', hb', hs⟩ := w4 (bs, pk) m1
    have hb' : bs[pk.1]? = some b' := hb'
    have lt := (List.getElem?_eq_some_iff.mp hb').1
    have c0 := chas_len (q := q) (c := 0) (i := pk.1) (sh := pt.1) (by omega)
    have c1 := chas_len (q := q) (c := x) (i := pk.1) (sh := pt.1) (by omega)
    show fstCh q (fstC p q n) (simC p q n) bs pk pt = fstR (plyCh q (plyC p q n) (simC p q n) x bs pk pt)
    unfold fstCh fstR plyCh
    refine List.ext_getElem? fun j => ?_
    rw [List.getElem?_map, List.getElem?_mapIdx, List.getElem?_mapIdx]
    by_cases hj : j < bs.length
    · have h1 : bs[j]? = some bs[j] := List.getElem?_eq_getElem hj
      have h2 : pt.2[j]? = some pt.2[j] := List.getElem?_eq_getElem (by omega)
      have h3 : (chas q 0 pk.1 pt.1)[j]? = some (chas q 0 pk.1 pt.1)[j] := List.getElem?_eq_getElem (by omega)
      have h4 : (chas q x pk.1 pt.1)[j]? = some (chas q x pk.1 pt.1)[j] := List.getElem?_eq_getElem (by omega)
      generalize bs[j] = b at h1
      generalize pt.2[j] = t at h2
      generalize (chas q 0 pk.1 pt.1)[j] = d at h3
      generalize (chas q x pk.1 pt.1)[j] = c at h4
      rw [(List.getElem?_zip_eq_some (z := (b, d, t))).mpr ⟨h1, (List.getElem?_zip_eq_some (z := (d, t))).mpr ⟨h3, h2⟩⟩, (List.getElem?_zip_eq_some (z := (b, c, t))).mpr ⟨h1, (List.getElem?_zip_eq_some (z := (c, t))).mpr ⟨h4, h2⟩⟩]
      show some (if j = pk.1 then fstC p q n b pk.2 t else (simC p q n b d t).1) = some (if j = pk.1 then plyC p q n b pk.2 t c else simC p q n b c t).1
      by_cases ej : j = pk.1
      · rw [if_pos ej, if_pos ej]
        subst ej
        rw [hb'] at h1
        cases h1
        have mb := List.mem_of_getElem? hb'
        rw [fst_pl q1 hp b' pk.2 t c (okb b' mb) (rtc bs (List.of_mem_zip m1).1 b' mb) hs (f3 _ (List.mem_of_getElem? ((List.getElem?_zip_eq_some (z := (b', t))).mpr ⟨hb', h2⟩))) (g4 t (List.mem_of_getElem? h2))]
      · rw [if_neg ej, if_neg ej]
        rw [chas_ne (c' := x) (by omega) ej, h4] at h3
        cases h3
        rfl
    · rw [List.getElem?_eq_none (by rw [List.length_zip]; omega), List.getElem?_eq_none (by rw [List.length_zip]; omega)]
      rfl

theorem op_eqTT {X : Cx} {n j c : Nat} {ca : Nat → Addr} {asp : ASp} (E : EqM X.prog X.w X.K X.mg X.base n (ca c) (toSp X.K ca asp)) (u : UQ (objS c asp)) (hr : Room j X.A) (hk : n + 2 ≤ j) : OpR X (compareOp .Eq) (rEqS X.K ca (tupS (tupS (objS c asp)))) := by
  obtain ⟨f, fd, ps, F, hs, hf, hb⟩ := E.ex
  exact op_eqS (RcS.tup (RcS.eqS (RcS.tup (RcS.eqS (RcS.obj F hs hf hb pass0) objS_ref u)) tupS_ref (UQ.tup u))) (hr.mono hk)

/-! ### == of claims -/
abbrev s_Claim___eq__ : Stmt := inClass (top 11) 1
theorem sc_Claim___eq__ : FnScope ["self", "other"] ["self", "other"] (defScope s_Claim___eq__) := ⟨rfl, rfl, rfl, by decide +kernel, rfl, by decide +kernel, by decide +kernel⟩
def aspClEq (n m : Nat) : ASp := fun ds P => ∃ (c : Cl n) (c' : Cl m), ds = [clO n c, clO m c'] ∧ ClOk n c ∧ ClOk m c' ∧ ∀ b : Bool, (b = true ↔ clO n c = clO m c') → P (.bl b)
theorem tupM_iff {α β : Type} {f f' : α → Dat} {g g' : β → Dat} (h : ∀ x y, f x = g y ↔ f' x = g' y) : ∀ (xs : List α) (ys : List β), tupM f xs = tupM g ys ↔ tupM f' xs = tupM g' ys := fun xs ys => by
  unfold tupM
  rw [Dat.tup.injEq, Dat.tup.injEq]
  induction xs generalizing ys with
  | nil =>
    cases ys with
    | nil => exact Iff.rfl
    | cons y ys => exact ⟨fun h => (by cases h), fun h => (by cases h)⟩
  | cons x xs ih =>
    cases ys with
    | nil => exact ⟨fun h => (by cases h), fun h => (by cases h)⟩
    | cons y ys =>
      rw [List.map_cons, List.map_cons, List.map_cons, List.map_cons, List.cons.injEq, List.cons.injEq, h x y, ih ys]
theorem clO_iff : ∀ (n m : Nat) (c : Cl n) (c' : Cl m), clO n c = clO m c' ↔ clL n c = clL m c'
  | 0, _, c, _ => c.elim
  | _ + 1, 0, _, c => c.elim
  | n + 1, m + 1, (s, chs), (s', chs') => by
    have h := tupM_iff (fun x y => tupM_iff (f := clO n) (f' := clL n) (g := clO m) (g' := clL m) (clO_iff n m) x y) chs chs'
    rw [clO_s, clO_s, clL_s, clL_s, Dat.obj.injEq, Dat.tup.injEq, List.cons.injEq, List.cons.injEq, List.cons.injEq, List.cons.injEq, h]
    have e1 : stO s.us s.eqs = stO s'.us s'.eqs ↔ stL s.us s.eqs = stL s'.us s'.eqs := by
      unfold stO stL
      rw [Dat.obj.injEq, Dat.tup.injEq]
      exact ⟨fun z => z.2, fun z => ⟨rfl, z⟩⟩
    rw [e1]
    exact ⟨fun z => z.2, fun z => ⟨rfl, z⟩⟩
theorem lay_strs {us : List Str} (h : ∀ u ∈ us, PyData.strOk u = true) : layD (.tup (us.map .str)) = true := (okE_tup (okE_maps fun u hu => okE_str (h u hu) 0)).1
theorem st_uq {W : Wd} {F : Addr → Prop} {H : Hp} {v : V} {us us' : List Str} {eqs eqs' : List Eqn} (h1 : StOk us eqs) (h2 : StOk us' eqs') (r1 : Rv W F H v (stO us eqs)) (r2 : Rv W F H v (stO us' eqs')) : stO us eqs = stO us' eqs' := by
  unfold stO at r1 r2 ⊢
  cases r1 with
  | obj fa hA rf no =>
    cases r2 with
    | obj fb hB rg no2 =>
      rw [hA] at hB
      cases hB
      obtain ⟨a, ea, ra⟩ := rf.get (i := 0) rfl rfl
      obtain ⟨b, eb, rb⟩ := rf.get (i := 1) rfl rfl
      obtain ⟨a', ea', ra'⟩ := rg.get (i := 0) rfl rfl
      obtain ⟨b', eb', rb'⟩ := rg.get (i := 1) rfl rfl
      rw [ea] at ea'
      rw [eb] at eb'
      cases ea'
      cases eb'
      rw [lay_uq ra ra' (lay_strs h1.so) (lay_strs h2.so), lay_uq rb rb' (okE_tup (okE_maps (okE_eqD h1))).1 (okE_tup (okE_maps (okE_eqD h2))).1]
theorem RvAll.uqM {α β : Type} {W : Wd} {F : Addr → Prop} {H : Hp} {f : α → Dat} {g : β → Dat} : ∀ {vs : List V} {xs : List α} {ys : List β}, (∀ v, ∀ x ∈ xs, ∀ y ∈ ys, Rv W F H v (f x) → Rv W F H v (g y) → f x = g y) → RvAll W F H vs (xs.map f) → RvAll W F H vs (ys.map g) → xs.map f = ys.map g
  | _, [], [], _, .nil, .nil => rfl
  | _, [], _ :: _, _, .nil, q => nomatch q
  | _, _ :: _, [], _, .cons _ _, q => nomatch q
  | _, x :: xs, y :: ys, h, .cons a r, .cons b q => by
    rw [List.map_cons, List.map_cons, h _ x List.mem_cons_self y List.mem_cons_self a b, RvAll.uqM (fun v x hx y hy => h v x (List.mem_cons_of_mem _ hx) y (List.mem_cons_of_mem _ hy)) r q]
theorem uq_tupM {α β : Type} {W : Wd} {F : Addr → Prop} {H : Hp} {f : α → Dat} {g : β → Dat} {v : V} {xs : List α} {ys : List β} (h : ∀ v, ∀ x ∈ xs, ∀ y ∈ ys, Rv W F H v (f x) → Rv W F H v (g y) → f x = g y) (r1 : Rv W F H v (tupM f xs)) (r2 : Rv W F H v (tupM g ys)) : tupM f xs = tupM g ys := by
  unfold tupM at r1 r2 ⊢
  cases r1 with
  | tup hA rr =>
    cases r2 with
    | tup hB qq =>
      cases hA.fn hB
      rw [RvAll.uqM h rr qq]
theorem clO_uq {W : Wd} {F : Addr → Prop} {H : Hp} : ∀ (n m : Nat) (v : V) (c : Cl n) (c' : Cl m), ClOk n c → ClOk m c' → Rv W F H v (clO n c) → Rv W F H v (clO m c') → clO n c = clO m c'
  | 0, _, _, c, _, _, _, _, _ => c.elim
  | _ + 1, 0, _, _, c, _, _, _, _ => c.elim
  | n + 1, m + 1, v, (s, chs), (s', chs'), ⟨so, _, ok⟩, ⟨so', _, ok'⟩, r1, r2 => by
    rw [clO_s] at r1 r2 ⊢
    rw [clO_s]
    cases r1 with
    | obj fa hA rf no =>
      cases r2 with
      | obj fb hB rg no2 =>
        rw [hA] at hB
        cases hB
        obtain ⟨a, ea, ra⟩ := rf.get (i := 0) rfl rfl
        obtain ⟨b, eb, rb⟩ := rf.get (i := 1) rfl rfl
        obtain ⟨a', ea', ra'⟩ := rg.get (i := 0) rfl rfl
        obtain ⟨b', eb', rb'⟩ := rg.get (i := 1) rfl rfl
        rw [ea] at ea'
        rw [eb] at eb'
        cases ea'
        cases eb'
        rw [st_uq so so' ra ra', uq_tupM (fun v x hx y hy => uq_tupM fun v b hb b' hb' => clO_uq n m v b b' ((ok x hx).2.2 b hb) ((ok' y hy).2.2 b' hb')) rb rb']
theorem uq_clEq (n m : Nat) : UQ (objS 2 (aspClEq n m)) := fun W F H v d e hs r1 r2 => by
  obtain ⟨_, c, c', e1, h1, h2, _⟩ := hs
  cases e1
  exact clO_uq n m v c c' h1 h2 r1 r2
section
variable {P : Program} {w : World} {K : PySem.W.Frag} {mg : Str → Option Value} {base : Heap} {ca : Nat → Addr}
theorem ok_cl_eq (n m k : Nat) {f : Addr} {fd : FuncData} (F : Fun K "__eq__" "Claim.__eq__" s_Claim___eq__ f fd) (T2 : CT K (ca 2)) (I_Claim : IsiC K (ca 2)) (G_Claim : mg "Claim" = some (.ref (ca 2))) (B : Blt mg) (E1 : EqM P w K mg base 1 (ca 1) (toSp K ca aspStEq)) (E2 : EqM P w K mg base (k + 1) (ca 2) (toSp K ca (aspClEq n m))) :
    FnOk P w K mg base CX0 (k + 4) f fd ["self", "other"] (toSp K ca (aspClEq (n + 1) (m + 1))) := by
  have U2 := uq_clEq n m
  refine F.ok sc_Claim___eq__ (fun vs H Q E h => sp_len (n := 2) (fun ds P a => by obtain ⟨_, _, rfl, _⟩ := a; rfl) h) (fun cdv A outer s H vs Q E hr h => ⟨_, (pss_one (ps_ret (pe_and (pe_callB (kisi (K := K) rfl) (by rfl) B.isinstance bt_isinstance (pa_cons (pv 1) (pa_cons (pe_glob (v := .ref _) rfl G_Claim rfl) pa_nil))) (pe_and (pe_cmpR (op_eqM E1 hr (by omega)) (kfld (K := K) rfl (pv 0)) (kfld (K := K) rfl (pv 1)) (nomark _)) (pe_one (pe_cmpR (op_eqTT E2 U2 hr (by omega)) (kfld (K := K) rfl (pv 0)) (kfld (K := K) rfl (pv 1)) (nomark _))))))),
    fn_run h (fun po => (s_ret fun _ => (a_andV (a_isO I_Claim a_var) (a_andV (a_op pst_rv rok_eqO (a_fld T2.cl T2.n_statement (c := 2) (i := 0) rfl a_var) (a_fld T2.cl T2.n_statement (c := 2) (i := 0) rfl a_var)) (a_op pst_rv rok_eqS (a_fld T2.cl T2.n_choices (c := 2) (i := 1) rfl a_var) (a_fld T2.cl T2.n_choices (c := 2) (i := 1) rfl a_var)))))) (fun ds P a => by obtain ⟨_, _, rfl, _⟩ := a; exact Nat.le_of_ble_eq_true rfl) ?_⟩)
  rintro ds P ⟨⟨s, chs⟩, ⟨s', chs'⟩, rfl, ⟨so, hl, ok⟩, ⟨so', hl', ok'⟩, hp⟩
  rw [clO_s, clO_s] at hp
  rw [clO_s, clO_s]
  unfold stO
  walk_at "dd"
  refine eq_st so so' fun b hb => ?_
  walk_at "dd"
  have cl : ∀ x ∈ chs, ∀ y ∈ chs', ∀ (i : Nat) (u v : Dat), (x.map (clO n))[i]? = some u → (y.map (clO m))[i]? = some v → objS 2 (aspClEq n m) u v := fun x hx y hy i u v e1 e2 => by
    rw [List.getElem?_map] at e1 e2
    obtain ⟨c, h1, rfl⟩ := Option.map_eq_some_iff.mp e1
    obtain ⟨c', h2, rfl⟩ := Option.map_eq_some_iff.mp e2
    have o1 := (ok x hx).2.2 c (List.mem_of_getElem? h1)
    have o2 := (ok' y hy).2.2 c' (List.mem_of_getElem? h2)
    refine ⟨?_, c, c', rfl, o1, o2, fun b hb => ⟨b, rfl, hb⟩⟩
    cases n with
    | zero => exact c.elim
    | succ n =>
      cases m with
      | zero => exact c'.elim
      | succ m =>
        obtain ⟨s1, c1⟩ := c
        obtain ⟨s2, c2⟩ := c'
        exact ⟨_, _, clO_s s1 c1, clO_s s2 c2⟩
  refine twoI (fun e => ?_) (fun e => ?_)
  · have e1 := hb.mp e
    refine ⟨⟨_, _, rfl, rfl, fun i u v e1 e2 => ?_⟩, fun d hd => hp d ?_⟩
    · rw [List.getElem?_map] at e1 e2
      obtain ⟨x, h1, rfl⟩ := Option.map_eq_some_iff.mp e1
      obtain ⟨y, h2, rfl⟩ := Option.map_eq_some_iff.mp e2
      exact ⟨_, _, rfl, rfl, cl x (List.mem_of_getElem? h1) y (List.mem_of_getElem? h2)⟩
    · rw [hd, e1.1, e1.2, Dat.obj.injEq, List.cons.injEq, List.cons.injEq]
      exact ⟨fun z => ⟨rfl, rfl, z, rfl⟩, fun z => z.2.2.1⟩
  · refine hp false ⟨fun z => (by cases z), fun z => ?_⟩
    rw [Dat.obj.injEq, List.cons.injEq] at z
    have z1 := z.2.1
    unfold stO at z1
    rw [Dat.obj.injEq, List.cons.injEq, List.cons.injEq, Dat.tup.injEq, Dat.tup.injEq] at z1
    rw [hb.mpr ⟨strs_inj z1.2.1, map_inj (fun _ _ => eqD_inj) z1.2.2.1⟩] at e
    cases e
theorem rec_cl_eq {f : Addr} {fd : FuncData} (F : Fun K "__eq__" "Claim.__eq__" s_Claim___eq__ f fd) (hs : PySem.W.findIn K (.ref (ca 2)) "__eq__" = some (some (.ref f))) (hf : PySem.W.isFn K (.ref f) = true) (hb : Binds K fd ["self", "other"] []) (T2 : CT K (ca 2)) (I_Claim : IsiC K (ca 2)) (G_Claim : mg "Claim" = some (.ref (ca 2))) (B : Blt mg) (E1 : EqM P w K mg base 1 (ca 1) (toSp K ca aspStEq)) :
    ∀ N n m, n ≤ N → FnOk P w K mg base CX0 (3 * N + 1) f fd ["self", "other"] (toSp K ca (aspClEq n m))
  | _, 0, _, _ => fn_vac fun _ _ ⟨c, _⟩ => c.elim
  | _, _ + 1, 0, _ => fn_vac fun _ _ ⟨_, c, _⟩ => c.elim
  | 0, n + 1, _ + 1, h => absurd h (Nat.not_succ_le_zero n)
  | N + 1, n + 1, m + 1, h => ok_cl_eq n m (3 * N) F T2 I_Claim G_Claim B E1 ⟨f, fd, _, rec_cl_eq F hs hf hb T2 I_Claim G_Claim B E1 N n m (Nat.le_of_succ_le_succ h), hs, hf, hb⟩
def aspClEqs : ASp := fun ds P => ∃ x : { y : Nat × Nat // y.1 ≤ 3 }, aspClEq x.1.1 x.1.2 ds P
theorem ok_cl_eqs {f : Addr} {fd : FuncData} (F : Fun K "__eq__" "Claim.__eq__" s_Claim___eq__ f fd) (hs : PySem.W.findIn K (.ref (ca 2)) "__eq__" = some (some (.ref f))) (hf : PySem.W.isFn K (.ref f) = true) (hb : Binds K fd ["self", "other"] []) (T2 : CT K (ca 2)) (I_Claim : IsiC K (ca 2)) (G_Claim : mg "Claim" = some (.ref (ca 2))) (B : Blt mg) (E1 : EqM P w K mg base 1 (ca 1) (toSp K ca aspStEq)) :
    EqM P w K mg base 10 (ca 2) (toSp K ca aspClEqs) := ⟨⟨f, fd, _, fn_un fun x => rec_cl_eq F hs hf hb T2 I_Claim G_Claim B E1 3 x.1.1 x.1.2 x.2, hs, hf, hb⟩⟩
end

/-! ### whether a claim holds, by the law, of both answers -/
abbrev s__law_true : Stmt := top 48
theorem sc__law_true : FnScope ["group", "claim", "witness", "k", "index", "inner", "element", "factors"] ["group", "claim", "witness"] (defScope s__law_true) := ⟨rfl, rfl, rfl, by decide +kernel, rfl, by decide +kernel, by decide +kernel⟩
theorem zpA {α β : Type} {xs : List α} {ys : List β} {j : Nat} {a : α} {b : β} (h1 : xs[j]? = some a) (h2 : ys[j]? = some b) : (xs.zip ys)[j]? = some (a, b) := (List.getElem?_zip_eq_some (z := (a, b))).mpr ⟨h1, h2⟩
theorem zipAt {α β : Type} {xs : List α} {ys : List β} {i : Nat} {z : α × β} (h : (xs.zip ys)[i]? = some z) : xs[i]? = some z.1 ∧ ys[i]? = some z.2 := List.getElem?_zip_eq_some.mp h
theorem all_take {α : Type} {xs : List α} {G : α → Prop} {k : Nat} {x : α} (h : ∀ z ∈ xs.take k, G z) (e : xs[k]? = some x) (g : G x) : ∀ z ∈ xs.take (k + 1), G z := fun z hz => by
  rw [take_snoc e] at hz
  rcases List.mem_append.mp hz with hz | hz
  · exact h z hz
  · rw [List.mem_singleton.mp hz]
    exact g
section
variable {P : Program} {w : World} {K : PySem.W.Frag} {mg : Str → Option Value} {base : Heap} {ca : Nat → Addr}
def aspLTru (n : Nat) : ASp := fun ds P => ∃ (p q : Int) (gs : List Int) (c : Cl n) (wt : Wt n), ds = [lgD p q gs, clL n c, wtD n wt] ∧ (0 < q ∧ q < 2147483648 ∧ 1 < p ∧ p < 2147483648) ∧ ClOk n c ∧ WtFit n c wt ∧ ∀ b : Bool, (b = true ↔ SatC p q n c wt) → P (.bl b)
theorem ok_law_tru (n : Nat) {f : Addr} {fd : FuncData} (F : Fun K "_law_true" "_law_true" s__law_true f fd) (B : Blt mg) (C__law_sides : C8.Cal P w K mg base 4 "_law_sides" (toSp K ca aspLSides) []) (C__law_true : C8.Cal P w K mg base (n + 5) "_law_true" (toSp K ca (aspLTru n)) []) :
    FnOk P w K mg base CX0 (n + 6) f fd ["group", "claim", "witness"] (toSp K ca (aspLTru (n + 1))) := by
  refine F.ok sc__law_true (fun vs H Q E h => sp_len (n := 3) (fun ds P a => by obtain ⟨_, _, _, _, _, rfl, _⟩ := a; rfl) h) (fun cdv A outer s H vs Q E hr h => ⟨_, (pss_cons (ps_if (pt_cmpR (kned (K := K) rfl hr.units) (C8.pe_c C__law_sides hr (by omega) rfl (pa_cons (pv 0) (pa_cons (pe_ix (kixs (K := K) rfl) (pv 1) pe_int (fun _ _ => rfl)) (pa_cons (pe_ix (kixs (K := K) rfl) (pv 2) pe_int (fun _ _ => rfl)) pa_nil)))) (pe_lc (own := [("element", 6), ("factors", 7)]) (tt := tYes) rfl sc__law_true.nd (kpit (K := K) rfl (pe_ix (kixs (K := K) rfl) (pe_ix (kixs (K := K) rfl) (pv 1) pe_int (fun _ _ => rfl)) pe_int (fun _ _ => rfl))) (blkOk_by (N := ["group", "claim", "witness", "k", "index", "inner", "element", "factors"]) (sc := defScope s__law_true) (by decide +kernel))
        (fun _ _ _ _ _ => (kgtup (K := K) (n := 2) rfl rfl (pgs_cons (pg_name (i := 6) sc__law_true.nd rfl (.inl rfl)) (pgs_cons (pg_name (i := 7) sc__law_true.nd rfl (.inl rfl)) pgs_nil)))) (fun _ _ _ _ _ => pts_nil)
        (fun _ _ _ _ _ => (pv 6))) (nomark _)) (pss_one (ps_ret pe_bl)) pss_nil)
      (pss_cons (ps_for PassesOwn.never rfl (pi_range1 rfl B.range (pa_cons (pe_callB (klen (K := K) rfl) (by rfl) B.len bt_len (pa_cons (pe_ix (kixs (K := K) rfl) (pv 1) pe_int (fun _ _ => rfl)) pa_nil)) pa_nil)) (pg_name (i := 3) sc__law_true.nd rfl (.inl rfl))
      (pss_cons (ps_asg (pe_ix (kixs (K := K) rfl) (pe_ix (kixs (K := K) rfl) (pv 2) pe_int (fun _ _ => rfl)) (pv 3) (fun _ _ => rfl)) (kgtup (K := K) (n := 2) rfl rfl (pgs_cons (pg_name (i := 4) sc__law_true.nd rfl (.inl rfl)) (pgs_cons (pg_name (i := 5) sc__law_true.nd rfl (.inl rfl)) pgs_nil))))
      (pss_one (ps_if (pt_not (pt_val (C8.pe_c C__law_true hr (by omega) rfl (pa_cons (pv 0) (pa_cons (pe_ix (kixs (K := K) rfl) (pe_ix (kixs (K := K) rfl) (pe_ix (kixs (K := K) rfl) (pv 1) pe_int (fun _ _ => rfl)) (pv 3) (fun _ _ => rfl)) (pv 4) (fun _ _ => rfl)) (pa_cons (pv 5) pa_nil)))))) (pss_one (ps_ret pe_bl)) pss_nil))))
      (pss_one (ps_ret pe_bl)))),
    fn_run h (fun po => (s_seq (s_if (fun _ => (a_test (a_op pst_pk rok_neD (a_pk (a_call (a_cons a_var (a_cons (a_op pst_pk rok_ix (a_pk a_var) a_int) (a_cons (a_op pst_pk rok_ix (a_pk a_var) a_int) a_nil))))) (a_pk (a_fz (a_lc (vs := [6, 7]) (i_tup (a_op pst_pk rok_ix (a_pk (a_op pst_pk rok_ix (a_pk a_var) a_int)) a_int)) (g_tup (g_cons (g_name (by decide)) (g_cons (g_name (by decide)) g_nil tot_name) tot_name)) a_yes a_var)))))) (s_ret fun _ => a_bl) s_next)
      (s_seq (s_for (vs := [3]) (fun _ => (i_ran1 (a_cons (a_b1 u_len (a_pk (a_op pst_pk rok_ix (a_pk a_var) a_int))) a_nil))) (fun _ => (g_name (by decide)))
      (s_seq (s_asg (vs := [4, 5]) (fun _ => (a_op pst_pk rok_ix (a_pk (a_op pst_pk rok_ix (a_pk a_var) a_int)) a_var)) (fun _ => (g_tup (g_cons (g_name (by decide)) (g_cons (g_name (by decide)) g_nil tot_name) tot_name))))
      (s_if (fun _ => (a_not (a_tb (a_call (a_cons a_var (a_cons (a_op pst_pk rok_ix (a_pk (a_op pst_pk rok_ix (a_pk (a_op pst_pk rok_ix (a_pk a_var) a_int)) a_var)) a_var) (a_cons a_var a_nil))))))) (s_ret fun _ => a_bl) s_next)))
      (s_ret fun _ => a_bl)))) (fun ds P a => by obtain ⟨_, _, _, _, _, rfl, _⟩ := a; exact Nat.le_of_ble_eq_true rfl) ?_⟩)
  rintro ds P ⟨p, q, gs, ⟨s, chs⟩, ⟨vs, pks⟩, rfl, ⟨q0, q1, p0, p1⟩, ⟨so, hl, ok⟩, ⟨w1, w3, w4⟩, hp⟩
  have hp : ∀ b : Bool, (b = true ↔ vs.length = s.us.length ∧ sides p q s.us s.eqs vs = s.eqs.map (·.1) ∧ pks.length = chs.length ∧ ∀ x ∈ chs.zip pks, ∃ b, x.1[x.2.1]? = some b ∧ SatC p q n b x.2.2) → P (.bl b) := hp
  rw [clL_s, wtD_s]
  unfold tupM
  refine seqG fun N hN => ?_
  rw [show stL s.us s.eqs = Dat.tup [.tup (s.us.map .str), .tup (s.eqs.map eqD)] from rfl]
  walk_at "dd"
  refine ⟨true, p, q, gs, s.us, s.eqs, vs, rfl, q0, q1, p0, p1, so, by omega, ?_⟩
  walk_at "dd"
  have le := so.le
  refine ⟨by rw [List.length_map]; omega, ?_⟩
  refine lcA_mapL (g := fun e : Eqn => Dat.int e.1) (fun e he Q hQ => ?_) ?_
  · unfold eqD
    walk_at "dd"
    exact hQ
  refine ⟨(okE_lst (okE_ints _ 0)).up (Nat.le_of_ble_eq_true rfl), (okE_lst (n := 0) (okE_maps fun e _ => okE_int _ _)).up (Nat.le_of_ble_eq_true rfl), fun y hy => ?_⟩
  have hy : y = true ↔ sides p q s.us s.eqs vs = s.eqs.map (·.1) := by
    rw [hy, Dat.lst.injEq, show s.eqs.map (fun e : Eqn => Dat.int e.1) = (s.eqs.map (·.1)).map .int by rw [List.map_map]; rfl]
    exact ⟨fun z => ints_inj z, fun z => by rw [z]⟩
  cases y with
  | false =>
    walk_at "dd"
    exact hp false ⟨fun z => (by cases z), fun z => hy.mpr z.2.1⟩
  | true =>
  have hy := hy.mp rfl
  walk_at "dd"
  subst hN
  walk_at "dd"
  rw [List.length_map, Int.toNat_natCast]
  refine ⟨by omega, by omega, ?_⟩
  refine forA_ran (n := chs.length) (fun k env => (∃ y3 y4 y5, env = [.d (lgD p q gs), .d (.tup [.tup [.tup (s.us.map .str), .tup (s.eqs.map eqD)], .tup (chs.map fun bs => .tup (bs.map (clL n)))]), .d (.tup [.tup (vs.map .int), .tup (pks.map (pkD (wtD n)))]), y3, y4, y5, .u, .u]) ∧ ∀ x ∈ (chs.zip pks).take k, ∃ b, x.1[x.2.1]? = some b ∧ SatC p q n b x.2.2) ⟨⟨_, _, _, rfl⟩, fun x hx => nomatch hx⟩ ?_ ?_
  · rintro k env hk ⟨⟨y3, y4, y5, rfl⟩, inv⟩ N hN
    have hb : chs[k]? = some chs[k] := List.getElem?_eq_getElem hk
    have hpk : pks[k]? = some pks[k] := List.getElem?_eq_getElem (by omega)
    generalize chs[k] = bs at hb
    generalize pks[k] = pk at hpk
    obtain ⟨b, hbi, hs⟩ := w4 (bs, pk) (List.mem_of_getElem? (zpA hb hpk))
    have hbi : bs[pk.1]? = some b := hbi
    obtain ⟨b0, b1, okb⟩ := ok bs (List.mem_of_getElem? hb)
    walk_at "dd"
    refine oa_at (j := k) (Int.zero_add _) hpk ?_
    unfold pkD
    walk_at "dd"
    refine oa_at (j := k) (Int.zero_add _) hb ?_
    walk_at "dd"
    refine oa_at (j := pk.1) rfl hbi ?_
    refine ⟨p, q, gs, b, pk.2, rfl, ⟨q0, q1, p0, p1⟩, okb b (List.mem_of_getElem? hbi), hs, fun y hy => ?_⟩
    walk_at "dd"
    cases y with
    | true => exact twoZ rfl (hN _ ⟨⟨_, _, _, rfl⟩, all_take inv (zpA hb hpk) ⟨b, hbi, hy.mp rfl⟩⟩)
    | false =>
      refine twoY rfl (hp false ⟨fun z => (by cases z), fun z => ?_⟩)
      obtain ⟨b', e1, e2⟩ := z.2.2.2 (bs, pk) (List.mem_of_getElem? (zpA hb hpk))
      have e1 : bs[pk.1]? = some b' := e1
      rw [hbi] at e1
      cases e1
      exact hy.mpr e2
  · rintro env ⟨⟨y3, y4, y5, rfl⟩, inv⟩
    walk_at "dd"
    rw [List.take_of_length_le (by rw [List.length_zip]; omega)] at inv
    exact hp true ⟨fun _ => ⟨w1, hy, w3, inv⟩, fun _ => rfl⟩
theorem rec_law_tru {f : Addr} {fd : FuncData} (F : Fun K "_law_true" "_law_true" s__law_true f fd) (m : mg "_law_true" = some (.ref f)) (k : PySem.W.keepIn K (.ref f) = true) (b : Binds K fd ["group", "claim", "witness"] []) (B : Blt mg) (C__law_sides : C8.Cal P w K mg base 4 "_law_sides" (toSp K ca aspLSides) []) :
    ∀ n, C8.Cal P w K mg base (n + 5) "_law_true" (toSp K ca (aspLTru n)) []
  | 0 => ⟨⟨f, fd, _, [], fn_vac fun _ _ ⟨_, _, _, c, _⟩ => c.elim, m, k, b, .nil⟩⟩
  | n + 1 => ⟨⟨f, fd, _, [], ok_law_tru n F B C__law_sides (rec_law_tru F m k b B C__law_sides n), m, k, b, .nil⟩⟩
end

/-! ### what fits, by the law -/
abbrev s__law_fits : Stmt := top 47
theorem sc__law_fits : FnScope ["group", "claim", "first", "challenge", "replied", "k", "answers", "place", "number", "pair"] ["group", "claim", "first", "challenge", "replied"] (defScope s__law_fits) := ⟨rfl, rfl, rfl, by decide +kernel, rfl, by decide +kernel, by decide +kernel⟩
theorem fits_rng {p q : Int} : ∀ {n : Nat} {c : Cl n} {m : Mv n} {x : Int} {r : Ry n}, FitsC p q n c m x r → 0 ≤ x ∧ x < q
  | 0, c, _, _, _, _ => c.elim
  | _ + 1, (_, _), (_, _), _, (_, _), h => h.2.2.2.1
theorem zip3A {α β γ : Type} {xs : List α} {ys : List β} {zs : List γ} {j : Nat} {a : α} {b : β} {c : γ} (h1 : xs[j]? = some a) (h2 : ys[j]? = some b) (h3 : zs[j]? = some c) : (xs.zip (ys.zip zs))[j]? = some (a, b, c) := zpA h1 (zpA h2 h3)
theorem sub_mod {S x q : Int} (h0 : 0 ≤ x) (h1 : x < q) : (S - x) % q = 0 ↔ S % q = x := by
  rw [← Int.emod_eq_emod_iff_emod_sub_eq_zero, Int.emod_eq_of_lt h0 h1]
theorem fil_any {α : Type} {xs : List α} {c : α → Bool} {R : α → Prop} (hc : ∀ x, c x = false ↔ R x) (h : (0 : Int) < ((xs.filter c).length : Int)) : ¬ ∀ x ∈ xs, R x := fun z => by
  have : xs.filter c = [] := List.filter_eq_nil_iff.mpr fun x hx => by
    rw [(hc x).mpr (z x hx)]
    decide
  rw [this, List.length_nil] at h
  exact absurd h (Int.lt_irrefl 0)
theorem fil_none {α : Type} {xs : List α} {c : α → Bool} {R : α → Prop} (hc : ∀ x, c x = false ↔ R x) (h : ¬ (0 : Int) < ((xs.filter c).length : Int)) : ∀ x ∈ xs, R x := fun x hx => by
  refine (hc x).mp (Bool.eq_false_iff.mpr fun z => ?_)
  have := List.length_pos_of_mem (List.mem_filter.mpr ⟨hx, z⟩)
  omega
theorem rng_c {q : Int} (r : Int) : (!(decide (0 ≤ r) && decide (r < q))) = false ↔ 0 ≤ r ∧ r < q := by
  rw [Bool.not_eq_false', Bool.and_eq_true, decide_eq_true_iff, decide_eq_true_iff]
theorem rng_el {q r : Int} {A B : Prop} (h1 : (!(decide (0 ≤ r) && decide (r < q))) = true → A) (h2 : (!(decide (0 ≤ r) && decide (r < q))) = false → B) : two (decide (0 ≤ r)) (two (!decide (r < q)) A B) A := by
  refine twoD (fun z0 => ?_) (fun z0 => h1 (by rw [decide_eq_false z0]; rfl))
  rw [decide_eq_true z0, Bool.true_and] at h1 h2
  refine twoN (fun z1 => h1 (by rw [decide_eq_false z1]; rfl)) (fun z1 => h2 (by rw [decide_eq_true z1]; rfl))
section
variable {P : Program} {w : World} {K : PySem.W.Frag} {mg : Str → Option Value} {base : Heap} {ca : Nat → Addr}
def aspLFits (n : Nat) : ASp := fun ds P => ∃ (p q x : Int) (gs : List Int) (c : Cl n) (m : Mv n) (r : Ry n), ds = [lgD p q gs, clL n c, mvD n m, .int x, ryD n r] ∧ (0 < q ∧ q < 2147483648 ∧ 1 < p ∧ p < 2147483648) ∧ ClOk n c ∧ MvB n m ∧ RyB n r ∧ (0 ≤ x ∧ x < q) ∧ ∀ b : Bool, (b = true ↔ FitsC p q n c m x r) → P (.bl b)
theorem ok_law_fits (n : Nat) {f : Addr} {fd : FuncData} (F : Fun K "_law_fits" "_law_fits" s__law_fits f fd) (B : Blt mg) (C__law_firsts : C8.Cal P w K mg base 5 "_law_firsts" (toSp K ca aspLFirsts) []) (C__law_fits : C8.Cal P w K mg base (n + 6) "_law_fits" (toSp K ca (aspLFits n)) []) :
    FnOk P w K mg base CX0 (n + 7) f fd ["group", "claim", "first", "challenge", "replied"] (toSp K ca (aspLFits (n + 1))) := by
  refine F.ok sc__law_fits (fun vs H Q E h => sp_len (n := 5) (fun ds P a => by obtain ⟨_, _, _, _, _, _, _, rfl, _⟩ := a; rfl) h) (fun cdv A outer s H vs Q E hr h => ⟨_, (pss_cons (ps_if (PW.pt (pw_or (pt_cmpR op_ne (pe_callB (klen (K := K) rfl) (by rfl) B.len bt_len (pa_cons (pe_ix (kixs (K := K) rfl) (pv 4) pe_int (fun _ _ => rfl)) pa_nil)) (pe_callB (klen (K := K) rfl) (by rfl) B.len bt_len (pa_cons (pe_ix (kixs (K := K) rfl) (pe_ix (kixs (K := K) rfl) (pv 1) pe_int (fun _ _ => rfl)) pe_int (fun _ _ => rfl)) pa_nil)) (nomark _)) (pw_or (pt_cmpR op_ne (pe_callB (klen (K := K) rfl) (by rfl) B.len bt_len (pa_cons (pe_ix (kixs (K := K) rfl) (pv 4) pe_int (fun _ _ => rfl)) pa_nil)) (pe_callB (klen (K := K) rfl) (by rfl) B.len bt_len (pa_cons (pe_ix (kixs (K := K) rfl) (pv 1) pe_int (fun _ _ => rfl)) pa_nil)) (nomark _)) (pw_or1 (pt_cmpR op_ne (pe_callB (klen (K := K) rfl) (by rfl) B.len bt_len (pa_cons (pe_ix (kixs (K := K) rfl) (pv 2) pe_int (fun _ _ => rfl)) pa_nil)) (pe_callB (klen (K := K) rfl) (by rfl) B.len bt_len (pa_cons (pe_ix (kixs (K := K) rfl) (pv 1) pe_int (fun _ _ => rfl)) pa_nil)) (nomark _)))))) (pss_one (ps_ret pe_bl)) pss_nil)
      (pss_cons (ps_if (pt_cmpR op_gt (pe_callB (klen (K := K) rfl) (by rfl) B.len bt_len (pa_cons (pe_lc (own := [("number", 8)]) (g := gName 8) rfl sc__law_fits.nd (kpit (K := K) rfl (pe_ix (kixs (K := K) rfl) (pv 4) pe_int (fun _ _ => rfl))) (blkOk_by (N := ["group", "claim", "first", "challenge", "replied", "k", "answers", "place", "number", "pair"]) (sc := defScope s__law_fits) (by decide +kernel))
        (fun _ _ _ _ _ => (pg_name (i := 8) sc__law_fits.nd rfl (.inl rfl))) (fun _ _ _ _ _ => pts_one (pt_not (pt_chain op_le op_lt pe_int (pv 8) (pe_ix (kixs (K := K) rfl) (pv 0) pe_int (fun _ _ => rfl)))))
        (fun _ _ _ _ _ => (pv 8))) pa_nil)) pe_int (nomark _)) (pss_one (ps_ret pe_bl)) pss_nil)
      (pss_cons (ps_if (pt_cmpR (kned (K := K) rfl hr.units) (pe_ix (kixs (K := K) rfl) (pv 2) pe_int (fun _ _ => rfl)) (C8.pe_c C__law_firsts hr (by omega) rfl (pa_cons (pv 0) (pa_cons (pe_ix (kixs (K := K) rfl) (pv 1) pe_int (fun _ _ => rfl)) (pa_cons (pv 3) (pa_cons (pe_ix (kixs (K := K) rfl) (pv 4) pe_int (fun _ _ => rfl)) pa_nil))))) (nomark _)) (pss_one (ps_ret pe_bl)) pss_nil)
      (pss_cons (ps_for PassesOwn.never rfl (pi_range1 rfl B.range (pa_cons (pe_callB (klen (K := K) rfl) (by rfl) B.len bt_len (pa_cons (pe_ix (kixs (K := K) rfl) (pv 1) pe_int (fun _ _ => rfl)) pa_nil)) pa_nil)) (pg_name (i := 5) sc__law_fits.nd rfl (.inl rfl))
      (pss_cons (ps_set (i := 6) sc__law_fits.nd rfl (.inl rfl) (pe_ix (kixs (K := K) rfl) (pe_ix (kixs (K := K) rfl) (pv 4) pe_int (fun _ _ => rfl)) (pv 5) (fun _ _ => rfl)))
      (pss_cons (ps_if (PW.pt (pw_or (pt_cmpR op_ne (pe_callB (klen (K := K) rfl) (by rfl) B.len bt_len (pa_cons (pv 6) pa_nil)) (pe_callB (klen (K := K) rfl) (by rfl) B.len bt_len (pa_cons (pe_ix (kixs (K := K) rfl) (pe_ix (kixs (K := K) rfl) (pv 1) pe_int (fun _ _ => rfl)) (pv 5) (fun _ _ => rfl)) pa_nil)) (nomark _)) (pw_or1 (pt_cmpR op_ne (pe_callB (klen (K := K) rfl) (by rfl) B.len bt_len (pa_cons (pe_ix (kixs (K := K) rfl) (pe_ix (kixs (K := K) rfl) (pv 2) pe_int (fun _ _ => rfl)) (pv 5) (fun _ _ => rfl)) pa_nil)) (pe_callB (klen (K := K) rfl) (by rfl) B.len bt_len (pa_cons (pv 6) pa_nil)) (nomark _))))) (pss_one (ps_ret pe_bl)) pss_nil)
      (pss_cons (ps_if (pt_cmpR op_gt (pe_callB (klen (K := K) rfl) (by rfl) B.len bt_len (pa_cons (pe_lc (own := [("pair", 9)]) (g := gName 9) rfl sc__law_fits.nd (kpit (K := K) rfl (pv 6)) (blkOk_by (N := ["group", "claim", "first", "challenge", "replied", "k", "answers", "place", "number", "pair"]) (sc := defScope s__law_fits) (by decide +kernel))
        (fun _ _ _ _ _ => (pg_name (i := 9) sc__law_fits.nd rfl (.inl rfl))) (fun _ _ _ _ _ => pts_one (pt_not (pt_chain op_le op_lt pe_int (pe_ix (kixs (K := K) rfl) (pv 9) pe_int (fun _ _ => rfl)) (pe_ix (kixs (K := K) rfl) (pv 0) pe_int (fun _ _ => rfl)))))
        (fun _ _ _ _ _ => (pv 9))) pa_nil)) pe_int (nomark _)) (pss_one (ps_ret pe_bl)) pss_nil)
      (pss_cons (ps_if (pt_cmpR op_ne (pe_op op_mod (pe_callTy call_int1 (by rfl) B.int bt_int (pa_cons (pe_op op_sub (pe_callB (ksum (K := K) rfl rfl) (by rfl) B.sum bt_sum (pa_cons (pe_lc (own := [("pair", 9)]) (g := gName 9) (tt := tYes) rfl sc__law_fits.nd (kpit (K := K) rfl (pv 6)) (blkOk_by (N := ["group", "claim", "first", "challenge", "replied", "k", "answers", "place", "number", "pair"]) (sc := defScope s__law_fits) (by decide +kernel))
        (fun _ _ _ _ _ => (pg_name (i := 9) sc__law_fits.nd rfl (.inl rfl))) (fun _ _ _ _ _ => pts_nil)
        (fun _ _ _ _ _ => (pe_ix (kixs (K := K) rfl) (pv 9) pe_int (fun _ _ => rfl)))) pa_nil)) (pv 3)) pa_nil)) (pe_ix (kixs (K := K) rfl) (pv 0) pe_int (fun _ _ => rfl))) pe_int (nomark _)) (pss_one (ps_ret pe_bl)) pss_nil)
      (pss_one (ps_for PassesOwn.never rfl (pi_range1 rfl B.range (pa_cons (pe_callB (klen (K := K) rfl) (by rfl) B.len bt_len (pa_cons (pv 6) pa_nil)) pa_nil)) (pg_name (i := 7) sc__law_fits.nd rfl (.inl rfl))
      (pss_one (ps_if (pt_not (pt_val (C8.pe_c C__law_fits hr (by omega) rfl (pa_cons (pv 0) (pa_cons (pe_ix (kixs (K := K) rfl) (pe_ix (kixs (K := K) rfl) (pe_ix (kixs (K := K) rfl) (pv 1) pe_int (fun _ _ => rfl)) (pv 5) (fun _ _ => rfl)) (pv 7) (fun _ _ => rfl)) (pa_cons (pe_ix (kixs (K := K) rfl) (pe_ix (kixs (K := K) rfl) (pe_ix (kixs (K := K) rfl) (pv 2) pe_int (fun _ _ => rfl)) (pv 5) (fun _ _ => rfl)) (pv 7) (fun _ _ => rfl)) (pa_cons (pe_ix (kixs (K := K) rfl) (pe_ix (kixs (K := K) rfl) (pv 6) (pv 7) (fun _ _ => rfl)) pe_int (fun _ _ => rfl)) (pa_cons (pe_ix (kixs (K := K) rfl) (pe_ix (kixs (K := K) rfl) (pv 6) (pv 7) (fun _ _ => rfl)) pe_int (fun _ _ => rfl)) pa_nil)))))))) (pss_one (ps_ret pe_bl)) pss_nil)))))))))
      (pss_one (ps_ret pe_bl)))))),
    fn_run h (fun po => (s_seq (s_if (fun _ => (a_or (a_test (a_op pst_rv rok_ne (a_b1 u_len (a_pk (a_op pst_pk rok_ix (a_pk a_var) a_int))) (a_b1 u_len (a_pk (a_op pst_pk rok_ix (a_pk (a_op pst_pk rok_ix (a_pk a_var) a_int)) a_int))))) (a_or (a_test (a_op pst_rv rok_ne (a_b1 u_len (a_pk (a_op pst_pk rok_ix (a_pk a_var) a_int))) (a_b1 u_len (a_pk (a_op pst_pk rok_ix (a_pk a_var) a_int))))) (a_test (a_op pst_rv rok_ne (a_b1 u_len (a_pk (a_op pst_pk rok_ix (a_pk a_var) a_int))) (a_b1 u_len (a_pk (a_op pst_pk rok_ix (a_pk a_var) a_int)))))))) (s_ret fun _ => a_bl) s_next)
      (s_seq (s_if (fun _ => (a_test (a_op pst_rv rok_B0 (a_b1 u_len (a_pk (a_fz (a_lc (vs := [8]) (i_tup (a_op pst_pk rok_ix (a_pk a_var) a_int)) (g_name (by decide)) (a_not (a_test (a_chain rok_B0 rok_B0 a_int a_var (a_op pst_pk rok_ix (a_pk a_var) a_int)))) a_var)))) a_int))) (s_ret fun _ => a_bl) s_next)
      (s_seq (s_if (fun _ => (a_test (a_op pst_pk rok_neD (a_pk (a_op pst_pk rok_ix (a_pk a_var) a_int)) (a_pk (a_call (a_cons a_var (a_cons (a_op pst_pk rok_ix (a_pk a_var) a_int) (a_cons a_var (a_cons (a_op pst_pk rok_ix (a_pk a_var) a_int) a_nil))))))))) (s_ret fun _ => a_bl) s_next)
      (s_seq (s_for (vs := [5]) (fun _ => (i_ran1 (a_cons (a_b1 u_len (a_pk (a_op pst_pk rok_ix (a_pk a_var) a_int))) a_nil))) (fun _ => (g_name (by decide)))
      (s_seq (s_set fun _ => (a_op pst_pk rok_ix (a_pk (a_op pst_pk rok_ix (a_pk a_var) a_int)) a_var))
      (s_seq (s_if (fun _ => (a_or (a_test (a_op pst_rv rok_ne (a_b1 u_len (a_pk a_var)) (a_b1 u_len (a_pk (a_op pst_pk rok_ix (a_pk (a_op pst_pk rok_ix (a_pk a_var) a_int)) a_var))))) (a_test (a_op pst_rv rok_ne (a_b1 u_len (a_pk (a_op pst_pk rok_ix (a_pk (a_op pst_pk rok_ix (a_pk a_var) a_int)) a_var))) (a_b1 u_len (a_pk a_var)))))) (s_ret fun _ => a_bl) s_next)
      (s_seq (s_if (fun _ => (a_test (a_op pst_rv rok_B0 (a_b1 u_len (a_pk (a_fz (a_lc (vs := [9]) (i_tup a_var) (g_name (by decide)) (a_not (a_test (a_chain rok_B0 rok_B0 a_int (a_op pst_pk rok_ix (a_pk a_var) a_int) (a_op pst_pk rok_ix (a_pk a_var) a_int)))) a_var)))) a_int))) (s_ret fun _ => a_bl) s_next)
      (s_seq (s_if (fun _ => (a_test (a_op pst_rv rok_ne (a_op pst_rv rok_I (a_b1 u_int (a_op pst_rv rok_I0 (a_b1 u_sum (a_pk (a_fz (a_lc (vs := [9]) (i_tup a_var) (g_name (by decide)) a_yes (a_op pst_pk rok_ix (a_pk a_var) a_int))))) a_var)) (a_op pst_pk rok_ix (a_pk a_var) a_int)) a_int))) (s_ret fun _ => a_bl) s_next)
      (s_for (vs := [7]) (fun _ => (i_ran1 (a_cons (a_b1 u_len (a_pk a_var)) a_nil))) (fun _ => (g_name (by decide)))
      (s_if (fun _ => (a_not (a_tb (a_call (a_cons a_var (a_cons (a_op pst_pk rok_ix (a_pk (a_op pst_pk rok_ix (a_pk (a_op pst_pk rok_ix (a_pk a_var) a_int)) a_var)) a_var) (a_cons (a_op pst_pk rok_ix (a_pk (a_op pst_pk rok_ix (a_pk (a_op pst_pk rok_ix (a_pk a_var) a_int)) a_var)) a_var) (a_cons (a_op pst_pk rok_ix (a_pk (a_op pst_pk rok_ix (a_pk a_var) a_var)) a_int) (a_cons (a_op pst_pk rok_ix (a_pk (a_op pst_pk rok_ix (a_pk a_var) a_var)) a_int) a_nil))))))))) (s_ret fun _ => a_bl) s_next)))))))
      (s_ret fun _ => a_bl)))))) (fun ds P a => by obtain ⟨_, _, _, _, _, _, _, rfl, _⟩ := a; exact Nat.le_of_ble_eq_true rfl) ?_⟩)
  rintro ds P ⟨p, q, c, gs, ⟨s, chs⟩, ⟨ms, mvs⟩, ⟨rs, ans⟩, rfl, ⟨q0, q1, p0, p1⟩, ⟨so, hl, ok⟩, ⟨m1, m2, m3⟩, ⟨r1, r2, r3⟩, ⟨c0, c1⟩, hp⟩
  have hp : ∀ b : Bool, (b = true ↔ rs.length = s.us.length ∧ mvs.length = chs.length ∧ ans.length = chs.length ∧ (0 ≤ c ∧ c < q) ∧ (∀ r ∈ rs, 0 ≤ r ∧ r < q) ∧ firsts p q s.us s.eqs c rs = ms ∧
    ∀ x ∈ chs.zip (mvs.zip ans), x.2.1.length = x.1.length ∧ x.2.2.length = x.1.length ∧ (x.2.2.map (·.1)).sum % q = c ∧ ∀ y ∈ x.1.zip (x.2.1.zip x.2.2), FitsC p q n y.1 y.2.1 y.2.2.1 y.2.2.2) → P (.bl b) := hp
  rw [clL_s, mvD_s, ryD_s]
  unfold tupM
  unfold stL
  refine seqG fun N hN => ?_
  walk_at "dd"
  rw [List.length_map, List.length_map, List.length_map, List.length_map, List.length_map]
  refine twoN (fun h => hp _ ⟨fun z => (by cases z), fun z => absurd (by rw [z.1]) h⟩) (fun f1 => ?_)
  refine twoN (fun h => hp _ ⟨fun z => (by cases z), fun z => absurd (by rw [z.2.2.1]) h⟩) (fun f2 => ?_)
  refine twoN (fun h => hp _ ⟨fun z => (by cases z), fun z => absurd (by rw [z.2.1]) h⟩) (fun f3 => ?_)
  have f1 : rs.length = s.us.length := by omega
  have f2 : ans.length = chs.length := by omega
  have f3 : mvs.length = chs.length := by omega
  subst hN
  refine seqG fun N hN => ?_
  walk_at "dd"
  refine ⟨by rw [List.length_map]; omega, ?_⟩
  refine lcA_filL (g := Dat.int) (c := fun r => !(decide (0 ≤ r) && decide (r < q))) (fun r hr Q hq1 hq2 => ?_) ?_
  · unfold lgD
    walk_at "dd"
    exact rng_el hq1 hq2
  rw [List.length_map]
  refine twoD (fun h => hp _ ⟨fun z => (by cases z), fun z => absurd z.2.2.2.2.1 (fil_any rng_c h)⟩) (fun h => ?_)
  have fr := fil_none rng_c h
  subst hN
  refine seqG fun N hN => ?_
  walk_at "dd"
  refine ⟨true, p, q, gs, s.us, s.eqs, c, rs, rfl, q0, q1, p0, p1, so, by omega, ?_⟩
  refine ⟨(okE_tup (okE_ints _ 0)).up (Nat.le_of_ble_eq_true rfl), (okE_tup (okE_ints _ 0)).up (Nat.le_of_ble_eq_true rfl), fun b hb3 => ?_⟩
  walk_at "dd"
  have hb3 : b = true ↔ firsts p q s.us s.eqs c rs = ms := by
    rw [hb3]
    exact ⟨fun z => (ints_inj (Dat.tup.inj z)).symm, fun z => by rw [z]⟩
  cases b with
  | false => exact twoY rfl (hp false ⟨fun z => (by cases z), fun z => hb3.mpr z.2.2.2.2.2.1⟩)
  | true =>
  have hs := hb3.mp rfl
  refine twoZ rfl ?_
  subst hN
  walk_at "dd"
  rw [List.length_map, Int.toNat_natCast]
  refine ⟨by omega, by omega, ?_⟩
  have lz : (chs.zip (mvs.zip ans)).length = chs.length := by rw [List.length_zip, List.length_zip]; omega
  refine forA_ran (n := chs.length) (fun k env => (∃ y5 y6 y7 y8 y9, env = [.d (lgD p q gs), .d (.tup [.tup [.tup (s.us.map .str), .tup (s.eqs.map eqD)], .tup (chs.map fun bs => .tup (bs.map (clL n)))]), .d (.tup [.tup (ms.map .int), .tup (mvs.map fun x => .tup (x.map (mvD n)))]), .d (.int c), .d (.tup [.tup (rs.map .int), .tup (ans.map fun x => .tup (x.map (rpD (ryD n))))]), y5, y6, y7, y8, y9]) ∧
    ∀ x ∈ (chs.zip (mvs.zip ans)).take k, x.2.1.length = x.1.length ∧ x.2.2.length = x.1.length ∧ (x.2.2.map (·.1)).sum % q = c ∧ ∀ y ∈ x.1.zip (x.2.1.zip x.2.2), FitsC p q n y.1 y.2.1 y.2.2.1 y.2.2.2) ⟨⟨_, _, _, _, _, rfl⟩, fun x hx => nomatch hx⟩ ?_ ?_
  · rintro k env hk ⟨⟨y5, y6, y7, y8, y9, rfl⟩, inv⟩ N hN
    have hb : chs[k]? = some chs[k] := List.getElem?_eq_getElem hk
    have hm : mvs[k]? = some mvs[k] := List.getElem?_eq_getElem (by omega)
    have ha : ans[k]? = some ans[k] := List.getElem?_eq_getElem (by omega)
    generalize chs[k] = bs at hb
    generalize mvs[k] = mv at hm
    generalize ans[k] = an at ha
    have hz := zip3A hb hm ha
    have mz := List.mem_of_getElem? hz
    obtain ⟨b0, b1, okb⟩ := ok bs (List.mem_of_getElem? hb)
    obtain ⟨g1, g2⟩ := m3 mv (List.mem_of_getElem? hm)
    obtain ⟨k1, k2⟩ := r3 an (List.mem_of_getElem? ha)
    refine seqG fun M hM => ?_
    walk_at "dd"
    refine oa_at (j := k) (Int.zero_add _) ha ?_
    subst hM
    refine seqG fun M hM => ?_
    walk_at "dd"
    refine oa_at (j := k) (Int.zero_add _) hb ?_
    walk_at "dd"
    have no : ∀ {A : Prop}, ¬ A → (∀ z : (an.length : Int) = bs.length ∧ (mv.length : Int) = an.length ∧ (an.map (·.1)).sum % q = c ∧ ∀ y ∈ bs.zip (mv.zip an), FitsC p q n y.1 y.2.1 y.2.2.1 y.2.2.2, A) → P (.bl false) := fun ha hA => hp false ⟨fun z => (by cases z), fun z => by
      obtain ⟨z1, z2, z3, z4⟩ := z.2.2.2.2.2.2 _ mz
      have z1 : mv.length = bs.length := z1
      have z2 : an.length = bs.length := z2
      exact absurd (hA ⟨by omega, by omega, z3, z4⟩) ha⟩
    rw [List.length_map, List.length_map]
    refine twoN (fun h => no h fun z => z.1) (fun h1 => ?_)
    refine oa_at (j := k) (Int.zero_add _) hm ?_
    walk_at "dd"
    rw [List.length_map]
    refine twoN (fun h => no h fun z => z.2.1) (fun h2 => ?_)
    have lY : (bs.zip (mv.zip an)).length = an.length := by rw [List.length_zip, List.length_zip]; omega
    subst hM
    refine seqG fun M hM => ?_
    walk_at "dd"
    rw [List.length_map]
    refine ⟨by omega, ?_⟩
    refine lcA_filL (g := rpD (ryD n)) (c := fun x => !(decide (0 ≤ x.1) && decide (x.1 < q))) (fun x hx Q hq1 hq2 => ?_) ?_
    · unfold lgD rpD
      walk_at "dd"
      exact rng_el hq1 hq2
    rw [List.length_map]
    refine twoD (fun h => no (fil_any (R := fun x : Int × Ry n => 0 ≤ x.1 ∧ x.1 < q) (fun x => rng_c x.1) h) fun z x hx => ?_) (fun h => ?_)
    · obtain ⟨j, hj⟩ := List.mem_iff_getElem?.mp hx
      have lj := (List.getElem?_eq_some_iff.mp hj).1
      have hY := zip3A (List.getElem?_eq_getElem (show j < bs.length by omega)) (List.getElem?_eq_getElem (show j < mv.length by omega)) hj
      exact fits_rng (z.2.2.2 _ (List.mem_of_getElem? hY))
    have rg := fil_none (R := fun x : Int × Ry n => 0 ≤ x.1 ∧ x.1 < q) (fun x => rng_c x.1) h
    subst hM
    refine seqG fun M hM => ?_
    walk_at "dd"
    rw [List.length_map]
    refine ⟨by omega, ?_⟩
    refine lcA_mapL (g := fun x => Dat.int x.1) (fun x hx Q hQ => ?_) ?_
    · unfold rpD
      walk_at "dd"
      exact hQ
    refine ⟨an.map (·.1), by rw [List.map_map]; rfl, ?_⟩
    unfold lgD
    walk_at "dd"
    refine ⟨q0, ?_⟩
    refine twoN (fun h => no h fun z => (sub_mod c0 c1).mpr z.2.2.1) (fun h3 => ?_)
    have h3 := (sub_mod c0 c1).mp h3
    subst hM
    walk_at "dd"
    rw [List.length_map, Int.toNat_natCast]
    refine ⟨by omega, by omega, ?_⟩
    refine forA_ran (n := an.length) (fun j env => (∃ y7 y8 y9, env = [.d (.tup [.int p, .int q, .lst (gs.map .int)]), .d (.tup [.tup [.tup (s.us.map .str), .tup (s.eqs.map eqD)], .tup (chs.map fun bs => .tup (bs.map (clL n)))]), .d (.tup [.tup (ms.map .int), .tup (mvs.map fun x => .tup (x.map (mvD n)))]), .d (.int c), .d (.tup [.tup (rs.map .int), .tup (ans.map fun x => .tup (x.map (rpD (ryD n))))]), .d (.int (0 + (k : Int))), .d (.tup (an.map (rpD (ryD n)))), y7, y8, y9]) ∧
      ∀ y ∈ (bs.zip (mv.zip an)).take j, FitsC p q n y.1 y.2.1 y.2.2.1 y.2.2.2) ⟨⟨_, _, _, rfl⟩, fun x hx => nomatch hx⟩ ?_ ?_
    · rintro j env hj ⟨⟨y7, y8, y9, rfl⟩, inv2⟩ N' hN'
      have jb : bs[j]? = some bs[j] := List.getElem?_eq_getElem (by omega)
      have jm : mv[j]? = some mv[j] := List.getElem?_eq_getElem (by omega)
      have ja : an[j]? = some an[j] := List.getElem?_eq_getElem hj
      generalize bs[j] = b at jb
      generalize mv[j] = m at jm
      generalize an[j] = a at ja
      have hy := zip3A jb jm ja
      walk_at "dd"
      refine oa_at (j := k) (Int.zero_add _) hb ?_
      rw [Int.zero_add]
      refine ix_atT (f := clL n) rfl jb ?_
      refine oa_at (j := k) (Int.zero_add _) hm ?_
      refine ix_atT (f := mvD n) rfl jm ?_
      refine oa_at (j := j) rfl ja ?_
      unfold rpD
      walk_at "dd"
      refine oa_at (j := j) rfl ja ?_
      walk_at "dd"
      have rr := rg a (List.mem_of_getElem? ja)
      refine ⟨p, q, a.1, gs, b, m, a.2, rfl, ⟨q0, q1, p0, p1⟩, okb b (List.mem_of_getElem? jb), g2 m (List.mem_of_getElem? jm), k2 a (List.mem_of_getElem? ja), rr, fun y hy' => ?_⟩
      walk_at "dd"
      cases y with
      | true => exact twoZ rfl (hN' _ ⟨⟨_, _, _, rfl⟩, all_take inv2 hy (hy'.mp rfl)⟩)
      | false =>
        refine twoY rfl (no (fun z => nomatch (hy'.mpr z)) fun z => z.2.2.2 _ (List.mem_of_getElem? hy))
    · rintro env ⟨⟨y7, y8, y9, rfl⟩, inv2⟩
      rw [List.take_of_length_le (by omega)] at inv2
      walk_at "dd"
      exact hN _ ⟨⟨_, _, _, _, _, rfl⟩, all_take inv hz ⟨by show mv.length = bs.length; omega, by show an.length = bs.length; omega, h3, inv2⟩⟩
  · rintro env ⟨⟨y5, y6, y7, y8, y9, rfl⟩, inv⟩
    walk_at "dd"
    rw [List.take_of_length_le (by omega)] at inv
    exact hp true ⟨fun _ => ⟨f1, f3, f2, ⟨c0, c1⟩, fr, hs, inv⟩, fun _ => rfl⟩
theorem rec_law_fits {f : Addr} {fd : FuncData} (F : Fun K "_law_fits" "_law_fits" s__law_fits f fd) (m : mg "_law_fits" = some (.ref f)) (k : PySem.W.keepIn K (.ref f) = true) (b : Binds K fd ["group", "claim", "first", "challenge", "replied"] []) (B : Blt mg) (C__law_firsts : C8.Cal P w K mg base 5 "_law_firsts" (toSp K ca aspLFirsts) []) :
    ∀ n, C8.Cal P w K mg base (n + 6) "_law_fits" (toSp K ca (aspLFits n)) []
  | 0 => ⟨⟨f, fd, _, [], fn_vac fun _ _ ⟨_, _, _, _, c, _⟩ => c.elim, m, k, b, .nil⟩⟩
  | n + 1 => ⟨⟨f, fd, _, [], ok_law_fits n F B C__law_firsts (rec_law_fits F m k b B C__law_firsts n), m, k, b, .nil⟩⟩
end

/-! ### places in nested tuples -/
abbrev s__law_places : Stmt := top 49
theorem sc__law_places : FnScope ["part", "found", "k", "path"] ["part"] (defScope s__law_places) := ⟨rfl, rfl, rfl, by decide +kernel, rfl, by decide +kernel, by decide +kernel⟩
abbrev s__law_at : Stmt := top 50
theorem sc__law_at : FnScope ["part", "path", "index"] ["part", "path"] (defScope s__law_at) := ⟨rfl, rfl, rfl, by decide +kernel, rfl, by decide +kernel, by decide +kernel⟩
abbrev s__law_put : Stmt := top 51
theorem sc__law_put : FnScope ["part", "path", "other"] ["part", "path", "other"] (defScope s__law_put) := ⟨rfl, rfl, rfl, by decide +kernel, rfl, by decide +kernel, by decide +kernel⟩
mutual
def plcs : Dat → List (List Nat)
  | .tup xs => [] :: plcsL 0 xs
  | _ => [[]]
def plcsL : Nat → List Dat → List (List Nat)
  | _, [] => []
  | k, x :: xs => (plcs x).map (k :: ·) ++ plcsL (k + 1) xs
end
theorem plcsL_snoc : ∀ (xs : List Dat) (k : Nat) (x : Dat), plcsL k (xs ++ [x]) = plcsL k xs ++ (plcs x).map ((k + xs.length) :: ·)
  | [], k, x => List.append_nil _
  | y :: xs, k, x => by
    show (plcs y).map (k :: ·) ++ plcsL (k + 1) (xs ++ [x]) = ((plcs y).map (k :: ·) ++ plcsL (k + 1) xs) ++ _
    rw [plcsL_snoc xs (k + 1) x, List.append_assoc, List.length_cons, show k + 1 + xs.length = k + (xs.length + 1) by omega]
theorem plcsL_le : ∀ (xs ys : List Dat) (k : Nat), (plcsL k xs).length ≤ (plcsL k (xs ++ ys)).length
  | [], _, _ => Nat.zero_le _
  | x :: xs, ys, k => by
    show ((plcs x).map (k :: ·) ++ plcsL (k + 1) xs).length ≤ ((plcs x).map (k :: ·) ++ plcsL (k + 1) (xs ++ ys)).length
    rw [List.length_append, List.length_append]
    have := plcsL_le xs ys (k + 1)
    omega
theorem plcs_tup (xs : List Dat) : plcs (.tup xs) = [] :: plcsL 0 xs := rfl
theorem plcsL_mem : ∀ {xs : List Dat} {k : Nat} {p : List Nat}, p ∈ plcsL k xs → ∃ (i : Nat) (x : Dat) (r : List Nat), p = (k + i) :: r ∧ xs[i]? = some x ∧ r ∈ plcs x
  | [], _, _, h => nomatch h
  | x :: xs, k, p, h => by
    rcases List.mem_append.mp (show p ∈ (plcs x).map (k :: ·) ++ plcsL (k + 1) xs from h) with h | h
    · obtain ⟨r, hr, rfl⟩ := List.mem_map.mp h
      exact ⟨0, x, r, rfl, rfl, hr⟩
    · obtain ⟨i, y, r, e1, e2, e3⟩ := plcsL_mem h
      exact ⟨i + 1, y, r, by rw [e1]; congr 1; omega, e2, e3⟩
theorem plcsL_mem' : ∀ {xs : List Dat} {k i : Nat} {x : Dat}, xs[i]? = some x → (plcs x).length ≤ (plcsL k xs).length
  | x :: xs, k, 0, _, e => by
    cases e
    show _ ≤ ((plcs x).map (k :: ·) ++ plcsL (k + 1) xs).length
    rw [List.length_append, List.length_map]
    omega
  | x :: xs, k, i + 1, y, e => by
    have e : xs[i]? = some y := e
    have := plcsL_mem' (k := k + 1) e
    show _ ≤ ((plcs x).map (k :: ·) ++ plcsL (k + 1) xs).length
    rw [List.length_append]
    omega
def ptU (p : List Nat) : Dat := .tup (p.map fun (k : Nat) => .int (k : Int))
def atP : Dat → List Nat → Option Dat
  | d, [] => some d
  | .tup xs, k :: p => (xs[k]?).bind fun x => atP x p
  | _, _ :: _ => none
def putP : Dat → List Nat → Dat → Dat
  | _, [], e => e
  | .tup xs, k :: p, e => match xs[k]? with
    | some x => .tup (xs.set k (putP x p e))
    | none => .tup xs
  | d, _ :: _, _ => d
theorem at_nil (d : Dat) : atP d [] = some d := by cases d <;> rfl
theorem put_nil (d e : Dat) : putP d [] e = e := by cases d <;> rfl
theorem at_tup {xs : List Dat} {k : Nat} {p : List Nat} {x : Dat} (h : xs[k]? = some x) : atP (.tup xs) (k :: p) = atP x p := by
  show (xs[k]?).bind _ = _
  rw [h]
  rfl
theorem put_tup {xs : List Dat} {k : Nat} {p : List Nat} {x e : Dat} (h : xs[k]? = some x) : putP (.tup xs) (k :: p) e = .tup (xs.set k (putP x p e)) := by
  show (match xs[k]? with | some x => Dat.tup (xs.set k (putP x p e)) | none => .tup xs) = _
  rw [h]
theorem plcs_at : ∀ {p : List Nat} {d : Dat}, p ∈ plcs d → ∃ e, atP d p = some e
  | [], d, _ => ⟨d, at_nil d⟩
  | k :: p, d, h => by
    cases d with
    | tup xs =>
      rcases List.mem_cons.mp (show k :: p ∈ [] :: plcsL 0 xs from h) with h | h
      · cases h
      · obtain ⟨i, x, r, e1, e2, e3⟩ := plcsL_mem h
        cases e1
        obtain ⟨e, he⟩ := plcs_at e3
        exact ⟨e, by rw [Nat.zero_add, at_tup e2]; exact he⟩
    | _ => cases h with
      | tail _ h => cases h
theorem oa_d {xs : List Dat} {v : Int} {j : Nat} {x : Dat} {P : Dat → Prop} (e : v = (j : Int)) (h1 : xs[j]? = some x) (h : P x) : oQ (atI xs v) P := by
  rw [atD (j := j) (v := x) e h1]
  exact h
/-- nested tuples of ints -/
def trT : Nat → Dat → Prop
  | 0, _ => False
  | m + 1, d => (∃ i, d = .int i) ∨ ∃ xs, d = .tup xs ∧ xs.length ≤ 100000 ∧ ∀ x ∈ xs, trT m x
theorem plc_len : ∀ {m : Nat} {d : Dat} {p : List Nat}, trT m d → p ∈ plcs d → p.length < m
  | 0, _, _, h, _ => h.elim
  | m + 1, d, p, h, hp => by
    rcases h with ⟨i, rfl⟩ | ⟨xs, rfl, _, hx⟩
    · rw [List.mem_singleton.mp hp]
      exact Nat.succ_pos m
    · rcases List.mem_cons.mp (show p ∈ [] :: plcsL 0 xs from hp) with rfl | h
      · exact Nat.succ_pos m
      · obtain ⟨i, x, r, rfl, e2, e3⟩ := plcsL_mem h
        exact Nat.succ_lt_succ (plc_len (hx x (List.mem_of_getElem? e2)) e3)
section
variable {P : Program} {w : World} {K : PySem.W.Frag} {mg : Str → Option Value} {base : Heap} {ca : Nat → Addr}
def aspLPlaces (m : Nat) : ASp := fun ds P => ∃ d, ds = [d] ∧ (trT m d ∧ m ≤ 1000) ∧ (plcs d).length ≤ 100000 ∧ P (.lst ((plcs d).map ptU))
theorem ok_law_places (m : Nat) {f : Addr} {fd : FuncData} (F : Fun K "_law_places" "_law_places" s__law_places f fd) (B : Blt mg) (C__law_places : C8.Cal P w K mg base (m + 1) "_law_places" (toSp K ca (aspLPlaces m)) []) : FnOk P w K mg base CX0 (m + 2) f fd ["part"] (toSp K ca (aspLPlaces (m + 1))) := by
  refine F.ok sc__law_places (fun vs H Q E h => sp_len (n := 1) (fun ds P a => by obtain ⟨_, rfl, _⟩ := a; rfl) h) (fun cdv A outer s H vs Q E hr h => ⟨_, (pss_cons (ps_set (i := 1) sc__law_places.nd rfl (.inl rfl) (pe_lst (pa_cons (pe_tupF pa_nil) pa_nil)))
      (C8.pss_cut (ps_if (pt_val (pe_callB (kisi (K := K) rfl) (by rfl) B.isinstance bt_isinstance (pa_cons (pv 0) (pa_cons (pe_bltn (v := .ty "tuple") (u := .type "tuple") (by rfl) B.tuple bt_tuple rfl) pa_nil)))) (pss_one (ps_for PassesOwn.never rfl (pi_range1 rfl B.range (pa_cons (pe_callB (klen (K := K) rfl) (by rfl) B.len bt_len (pa_cons (pv 0) pa_nil)) pa_nil)) (pg_name (i := 2) sc__law_places.nd rfl (.inr rfl))
      (pss_one (ps_set (i := 1) sc__law_places.nd rfl (.inl rfl) (pe_op op_cat (pv 1) (pe_lc (own := [("path", 3)]) (g := gName 3) (tt := tYes) rfl sc__law_places.nd (kpil (K := K) rfl (C8.pe_c C__law_places hr (by omega) rfl (pa_cons (pe_ix (kixs (K := K) rfl) (pv 0) (pv 2) (fun _ _ => rfl)) pa_nil))) (blkOk_by (N := ["part", "found", "k", "path"]) (sc := defScope s__law_places) (by decide +kernel))
        (fun _ _ _ _ _ => (pg_name (i := 3) sc__law_places.nd rfl (.inl rfl))) (fun _ _ _ _ _ => pts_nil)
        (fun _ _ _ _ _ => (pe_op (kcatF (K := K) rfl) (pe_tupF (pa_cons (pv 2) pa_nil)) (pv 3))))))))) pss_nil)
      (pss_one (ps_ret (pv 1))))),
    fn_run h (fun po => (s_seq (s_set fun _ => (a_fz (a_lst (a_cons (a_tup a_nil) a_nil))))
      (s_cut (s_if (fun _ => (a_tb (a_isT (by decide) a_var))) (s_for (vs := [2]) (fun _ => (i_ran1 (a_cons (a_b1 u_len (a_pk a_var)) a_nil))) (fun _ => (g_name (by decide)))
      (s_set fun _ => (a_fz (a_opF pst_pk rok_catL (a_pk a_var) (a_pk (a_fz (a_lc (vs := [3]) (i_list (a_call (a_cons (a_op pst_pk rok_ix (a_pk a_var) a_var) a_nil))) (g_name (by decide)) a_yes (a_op pst_rv rok_catT (a_tup (a_cons a_var a_nil)) a_var)))))))) s_next)
      (s_ret fun _ => a_var)))) (fun ds P a => by obtain ⟨_, rfl, _⟩ := a; exact Nat.le_of_ble_eq_true rfl) ?_⟩)
  rintro ds P ⟨d, rfl, ⟨tr, lm⟩, ln, hp⟩
  rcases tr with ⟨i, rfl⟩ | ⟨xs, rfl, lx, hx⟩
  · walk_at "dd"
    refine ⟨fun env => env = [.d (.int i), .d (.lst [.tup []]), .u, .u], ?_, ?_⟩
    · walk_at "dd"
    · rintro env rfl
      walk_at "dd"
      exact hp
  · rw [plcs_tup] at ln hp
    walk_at "dd"
    refine ⟨fun env => ∃ y2 y3, env = [.d (.tup xs), .d (.lst (([] :: plcsL 0 xs).map ptU)), y2, y3], ?_, ?_⟩
    · walk_at "dd"
      refine ⟨by omega, by omega, ?_⟩
      refine forA_ran (n := xs.length) (fun k env => ∃ y2 y3, env = [.d (.tup xs), .d (.lst (([] :: plcsL 0 (xs.take k)).map ptU)), y2, y3]) ⟨_, _, rfl⟩ ?_ ?_
      · rintro k env hk ⟨y2, y3, rfl⟩ N hN
        have hx' : xs[k]? = some xs[k] := List.getElem?_eq_getElem hk
        generalize xs[k] = x at hx'
        have l1 := plcsL_mem' (k := 0) hx'
        walk_at "dd"
        refine oa_d (Int.zero_add _) hx' ?_
        refine ⟨x, rfl, ⟨hx x (List.mem_of_getElem? hx'), by omega⟩, by rw [List.length_cons] at ln; omega, ?_⟩
        walk_at "dd"
        have l2 := plcsL_le (xs.take (k + 1)) (xs.drop (k + 1)) 0
        rw [List.take_append_drop, take_snoc hx', plcsL_snoc, List.length_append, List.length_map] at l2
        rw [List.length_cons] at ln
        refine ⟨by rw [List.length_map]; omega, ?_⟩
        refine lcA_mapL (g := fun p : List Nat => ptU (k :: p)) (fun p hp Q hQ => ?_) ?_
        · unfold ptU
          walk_at "dd"
          have lp := plc_len (hx x (List.mem_of_getElem? hx')) hp
          rw [Int.zero_add]
          exact ⟨by rw [List.length_map]; omega, hQ⟩
        · rw [List.length_map, List.length_map]
          refine ⟨by omega, hN _ ⟨.d (.int (0 + (k : Int))), y3, ?_⟩⟩
          rw [take_snoc hx', plcsL_snoc, List.length_take, Nat.min_eq_left (Nat.le_of_lt hk), Nat.zero_add, List.map_cons, List.map_append, List.map_map]
          rfl
      · rintro env ⟨y2, y3, rfl⟩
        walk_at "dd"
        rw [List.take_length]
        exact ⟨_, _, rfl⟩
    · rintro env ⟨y2, y3, rfl⟩
      walk_at "dd"
      exact hp
def aspLAt : ASp := fun ds P => ∃ (d e : Dat) (p : List Nat), ds = [d, ptU p] ∧ atP d p = some e ∧ P e
theorem ok_law_at {f : Addr} {fd : FuncData} (F : Fun K "_law_at" "_law_at" s__law_at f fd) (B : Blt mg) : FnOk P w K mg base CX0 1 f fd ["part", "path"] (toSp K ca aspLAt) := by
  refine F.ok sc__law_at (fun vs H Q E h => sp_len (n := 2) (fun ds P a => by obtain ⟨_, _, _, rfl, _⟩ := a; rfl) h) (fun cdv A outer s H vs Q E hr h => ⟨_, (pss_cons (ps_for PassesOwn.never rfl (kpit (K := K) rfl (pv 1)) (pg_name (i := 2) sc__law_at.nd rfl (.inl rfl))
      (pss_one (ps_set (i := 0) sc__law_at.nd rfl (.inl rfl) (pe_ix (kixs (K := K) rfl) (pv 0) (pv 2) (fun _ _ => rfl)))))
      (pss_one (ps_ret (pv 0)))),
    fn_run h (fun po => (s_seq (s_for (vs := [2]) (fun _ => (i_tup a_var)) (fun _ => (g_name (by decide)))
      (s_set fun _ => (a_op pst_pk rok_ix (a_pk a_var) a_var)))
      (s_ret fun _ => a_var))) (fun ds P a => by obtain ⟨_, _, _, rfl, _⟩ := a; exact Nat.le_of_ble_eq_true rfl) ?_⟩)
  rintro ds P ⟨d, e, p, rfl, he, hp⟩
  unfold ptU
  walk_at "dd"
  refine forA_suf (fun r env => ∃ (d' : Dat) (y2 : Sl), env = [.d d', .d (.tup (p.map fun (k : Nat) => .int (k : Int))), y2] ∧ atP d' r = some e) ?_ ?_ p _ ⟨_, _, rfl, he⟩
  · rintro k r env ⟨d', y2, rfl, he⟩ N hN
    cases d' with
    | tup xs =>
      cases hx : xs[k]? with
      | none =>
        have he : (xs[k]?).bind _ = some e := he
        rw [hx] at he
        cases he
      | some x =>
        rw [at_tup hx] at he
        walk_at "dd"
        exact oa_d rfl hx (hN _ ⟨_, _, rfl, he⟩)
    | _ => cases he
  · rintro env ⟨d', y2, rfl, he⟩
    rw [at_nil] at he
    cases he
    walk_at "dd"
    exact hp
def aspLPut (m : Nat) : ASp := fun ds P => ∃ (d e x : Dat) (p : List Nat), ds = [d, ptU p, e] ∧ p.length < m ∧ trT m d ∧ atP d p = some x ∧ P (putP d p e)
theorem ok_law_put (m : Nat) {f : Addr} {fd : FuncData} (F : Fun K "_law_put" "_law_put" s__law_put f fd) (B : Blt mg) (C__law_put : C8.Cal P w K mg base (m + 1) "_law_put" (toSp K ca (aspLPut m)) []) : FnOk P w K mg base CX0 (m + 2) f fd ["part", "path", "other"] (toSp K ca (aspLPut (m + 1))) := by
  refine F.ok sc__law_put (fun vs H Q E h => sp_len (n := 3) (fun ds P a => by obtain ⟨_, _, _, _, rfl, _⟩ := a; rfl) h) (fun cdv A outer s H vs Q E hr h => ⟨_, (pss_cons (ps_if (pt_cmpR op_eq (pe_callB (klen (K := K) rfl) (by rfl) B.len bt_len (pa_cons (pv 1) pa_nil)) pe_int (nomark _)) (pss_one (ps_ret (pv 2))) pss_nil)
      (pss_one (ps_ret (pe_op (kcatF (K := K) rfl) (pe_op (kcatF (K := K) rfl) (pe_slice (kslF (K := K) rfl) (pv 0) po_none (po_some (pe_ix (kixs (K := K) rfl) (pv 1) pe_int (fun _ _ => rfl)))) (pe_tupF (pa_cons (C8.pe_c C__law_put hr (by omega) rfl (pa_cons (pe_ix (kixs (K := K) rfl) (pv 0) (pe_ix (kixs (K := K) rfl) (pv 1) pe_int (fun _ _ => rfl)) (fun _ _ => rfl)) (pa_cons (pe_slice (kslF (K := K) rfl) (pv 1) (po_some pe_int) po_none) (pa_cons (pv 2) pa_nil)))) pa_nil))) (pe_slice (kslF (K := K) rfl) (pv 0) (po_some (pe_op op_add (pe_ix (kixs (K := K) rfl) (pv 1) pe_int (fun _ _ => rfl)) pe_int)) po_none))))),
    fn_run h (fun po => (s_seq (s_if (fun _ => (a_test (a_op pst_rv rok_eq (a_b1 u_len (a_pk a_var)) a_int))) (s_ret fun _ => a_var) s_next)
      (s_ret fun _ => (a_op pst_rv rok_catT (a_op pst_rv rok_catT (a_slT a_var ao_none (ao_some (a_op pst_pk rok_ix (a_pk a_var) a_int))) (a_tup (a_cons (a_call (a_cons (a_op pst_pk rok_ix (a_pk a_var) (a_op pst_pk rok_ix (a_pk a_var) a_int)) (a_cons (a_slT a_var (ao_some a_int) ao_none) (a_cons a_var a_nil)))) a_nil))) (a_slT a_var (ao_some (a_op pst_rv rok_I0 (a_op pst_pk rok_ix (a_pk a_var) a_int) a_int)) ao_none))))) (fun ds P a => by obtain ⟨_, _, _, _, rfl, _⟩ := a; exact Nat.le_of_ble_eq_true rfl) ?_⟩)
  rintro ds P ⟨d, e, x, p, rfl, lp, tr, hx, hp⟩
  unfold ptU
  walk_at "dd"
  rw [List.length_map]
  cases p with
  | nil =>
    refine twoD (fun _ => ?_) (fun h => absurd rfl h)
    rw [put_nil] at hp
    exact hp
  | cons k p =>
    rw [List.length_cons] at lp ⊢
    refine twoD (fun h => by omega) (fun _ => ?_)
    cases d with
    | tup xs =>
      cases h : xs[k]? with
      | none =>
        have hx : (xs[k]?).bind _ = some x := hx
        rw [h] at hx
        cases hx
      | some z =>
        rw [at_tup h] at hx
        rw [put_tup h] at hp
        rw [List.map_cons]
        rcases tr with ⟨_, z⟩ | ⟨_, z, lx, hz⟩
        · cases z
        · cases z
          have lk := (List.getElem?_eq_some_iff.mp h).1
          have c0 : cutD (Dat.int (k : Int) :: p.map fun (k : Nat) => Dat.int (k : Int)) (some 1) none = p.map fun (k : Nat) => Dat.int (k : Int) := cut_from (a := 1)
          refine oa_d (j := 0) rfl rfl ?_
          walk_at "dd"
          refine oa_d rfl h ?_
          rw [c0]
          refine ⟨z, e, x, p, rfl, by omega, hz z (List.mem_of_getElem? h), hx, ?_⟩
          rw [cut_to, List.length_take]
          refine ⟨by omega, ?_⟩
          rw [show (k : Int) + 1 = ((k + 1 : Nat) : Int) by omega, cut_from, List.length_append, List.length_take, List.length_drop, List.length_singleton]
          refine ⟨by omega, ?_⟩
          rw [show xs.take k ++ [putP z p e] ++ xs.drop (k + 1) = xs.set k (putP z p e) by rw [List.set_eq_take_append_cons_drop, if_pos lk, List.append_assoc]; rfl]
          exact hp
    | _ => cases hx
theorem rec_law_places {f : Addr} {fd : FuncData} (F : Fun K "_law_places" "_law_places" s__law_places f fd) (m : mg "_law_places" = some (.ref f)) (k : PySem.W.keepIn K (.ref f) = true) (b : Binds K fd ["part"] []) (B : Blt mg) :
    ∀ n, C8.Cal P w K mg base (n + 1) "_law_places" (toSp K ca (aspLPlaces n)) []
  | 0 => ⟨⟨f, fd, _, [], fn_vac fun _ _ ⟨_, _, h, _⟩ => h.1.elim, m, k, b, .nil⟩⟩
  | n + 1 => ⟨⟨f, fd, _, [], ok_law_places n F B (rec_law_places F m k b B n), m, k, b, .nil⟩⟩
theorem rec_law_put {f : Addr} {fd : FuncData} (F : Fun K "_law_put" "_law_put" s__law_put f fd) (m : mg "_law_put" = some (.ref f)) (k : PySem.W.keepIn K (.ref f) = true) (b : Binds K fd ["part", "path", "other"] []) (B : Blt mg) :
    ∀ n, C8.Cal P w K mg base (n + 1) "_law_put" (toSp K ca (aspLPut n)) []
  | 0 => ⟨⟨f, fd, _, [], fn_vac fun _ _ ⟨_, _, _, _, _, h, _⟩ => absurd h (Nat.not_lt_zero _), m, k, b, .nil⟩⟩
  | n + 1 => ⟨⟨f, fd, _, [], ok_law_put n F B (rec_law_put F m k b B n), m, k, b, .nil⟩⟩
end

/-! ### spoilt -/
abbrev s__law_spoilt : Stmt := top 52
theorem sc__law_spoilt : FnScope ["pool", "group", "part", "way", "found", "path", "number", "other"] ["pool", "group", "part", "way"] (defScope s__law_spoilt) := ⟨rfl, rfl, rfl, by decide +kernel, rfl, by decide +kernel, by decide +kernel⟩
theorem plcs_at' : ∀ {p : List Nat} {m : Nat} {d : Dat}, trT m d → p ∈ plcs d → ∃ e, atP d p = some e ∧ ((∃ i, e = .int i) ∨ ∃ xs, e = .tup xs)
  | [], 0, _, h, _ => h.elim
  | [], m + 1, d, h, _ => ⟨d, at_nil d, by
    rcases h with h | ⟨xs, h, _⟩
    · exact .inl h
    · exact .inr ⟨xs, h⟩⟩
  | k :: p, 0, d, h, _ => h.elim
  | k :: p, m + 1, d, h, hp => by
    rcases h with ⟨i, rfl⟩ | ⟨xs, rfl, _, hx⟩
    · cases hp with
      | tail _ h => cases h
    · rcases List.mem_cons.mp (show k :: p ∈ [] :: plcsL 0 xs from hp) with h | h
      · cases h
      · obtain ⟨i, x, r, e1, e2, e3⟩ := plcsL_mem h
        cases e1
        rw [Nat.zero_add, at_tup e2]
        exact plcs_at' (hx x (List.mem_of_getElem? e2)) e3
def isI : Option Dat → Bool
  | some (.int _) => true
  | _ => false
section
variable {P : Program} {w : World} {K : PySem.W.Frag} {mg : Str → Option Value} {base : Heap} {ca : Nat → Addr}
def aspLSpoilt : ASp := fun ds P => ∃ (p q b0 way : Int) (bs : List Int) (d : Dat), ds = [.pool, lgD p q (b0 :: bs), d, .int way] ∧ (0 < q ∧ q < 1073741824 ∧ 1 < p ∧ p < 2147483648) ∧ trT 20 d ∧ (plcs d).length ≤ 100000 ∧ P d ∧ ∀ (r : List Nat) (i j : Int), r ∈ plcs d → atP d r = some (.int i) → P (putP d r (.int j))
theorem ok_law_spoilt {f : Addr} {fd : FuncData} (F : Fun K "_law_spoilt" "_law_spoilt" s__law_spoilt f fd) (B : Blt mg) (C__law_draw : C8.Cal P w K mg base 1 "_law_draw" (toSp K ca aspDraw) []) (C__law_product : C8.Cal P w K mg base 3 "_law_product" (toSp K ca aspLProduct) []) (C__law_places : C8.Cal P w K mg base 21 "_law_places" (toSp K ca (aspLPlaces 20)) []) (C__law_at : C8.Cal P w K mg base 1 "_law_at" (toSp K ca aspLAt) []) (C__law_put : C8.Cal P w K mg base 21 "_law_put" (toSp K ca (aspLPut 20)) []) :
    FnOk P w K mg base CX0 22 f fd ["pool", "group", "part", "way"] (toSp K ca aspLSpoilt) := by
  refine F.ok sc__law_spoilt (fun vs H Q E h => sp_len (n := 4) (fun ds P a => by obtain ⟨_, _, _, _, _, _, rfl, _⟩ := a; rfl) h) (fun cdv A outer s H vs Q E hr h => ⟨_, (pss_cons (ps_setLc (i := 4) (own := [("path", 5)]) (g := gName 5) rfl sc__law_spoilt.nd rfl rfl (sw_true rfl rfl rfl (by decide +kernel)) (kpil (K := K) rfl (C8.pe_c C__law_places hr (by omega) rfl (pa_cons (pv 2) pa_nil))) (blkOk_by (N := ["pool", "group", "part", "way", "found", "path", "number", "other"]) (sc := defScope s__law_spoilt) (by decide +kernel))
        (fun _ _ _ _ _ => (pg_name (i := 5) sc__law_spoilt.nd rfl (.inl rfl))) (fun _ _ _ _ _ => pts_one (pt_val (pe_callB (kisi (K := K) rfl) (by rfl) B.isinstance bt_isinstance (pa_cons (C8.pe_c C__law_at hr (by omega) rfl (pa_cons (pv 2) (pa_cons (pv 5) pa_nil))) (pa_cons (pe_bltn (v := .ty "int") (u := .type "int") (by rfl) B.int bt_int rfl) pa_nil)))))
        (fun _ _ _ _ _ => (pv 5)))
      (pss_cons (ps_if (pt_cmpR op_eq (pe_callB (klen (K := K) rfl) (by rfl) B.len bt_len (pa_cons (pv 4) pa_nil)) pe_int (nomark _)) (pss_one (ps_ret (pv 2))) pss_nil)
      (pss_cons (ps_set (i := 5) sc__law_spoilt.nd rfl (.inl rfl) (pe_ix (kixs (K := K) rfl) (pv 4) (C8.pe_c C__law_draw hr (by omega) rfl (pa_cons (pv 0) (pa_cons (pe_callB (klen (K := K) rfl) (by rfl) B.len bt_len (pa_cons (pv 4) pa_nil)) pa_nil))) (fun _ _ => rfl)))
      (pss_cons (ps_set (i := 6) sc__law_spoilt.nd rfl (.inl rfl) (C8.pe_c C__law_at hr (by omega) rfl (pa_cons (pv 2) (pa_cons (pv 5) pa_nil))))
      (pss_cons (ps_set (i := 7) sc__law_spoilt.nd rfl (.inl rfl) (pe_ix (kixs (K := K) rfl) (pe_tupF (pa_cons (C8.pe_c C__law_draw hr (by omega) rfl (pa_cons (pv 0) (pa_cons (pe_ix (kixs (K := K) rfl) (pv 1) pe_int (fun _ _ => rfl)) pa_nil))) (pa_cons (pe_op op_add (pv 6) (pe_ix (kixs (K := K) rfl) (pv 1) pe_int (fun _ _ => rfl))) (pa_cons (pe_op op_sub (pv 6) (pe_ix (kixs (K := K) rfl) (pv 1) pe_int (fun _ _ => rfl))) (pa_cons pe_int pa_nil))))) (C8.pe_c C__law_draw hr (by omega) rfl (pa_cons (pv 0) (pa_cons pe_int pa_nil))) (fun _ _ => rfl)))
      (C8.pss_cut (ps_if (pt_cmpR op_eq (pv 3) pe_int (nomark _)) (pss_one (ps_set (i := 7) sc__law_spoilt.nd rfl (.inl rfl) (C8.pe_c C__law_product hr (by omega) rfl (pa_cons (pv 1) (pa_cons (pe_lst (pa_cons (pe_tupF (pa_cons (pv 6) (pa_cons pe_int pa_nil))) (pa_cons (pe_tupF (pa_cons (pe_ix (kixs (K := K) rfl) (pe_ix (kixs (K := K) rfl) (pv 1) pe_int (fun _ _ => rfl)) pe_int (fun _ _ => rfl)) (pa_cons (C8.pe_c C__law_draw hr (by omega) rfl (pa_cons (pv 0) (pa_cons (pe_ix (kixs (K := K) rfl) (pv 1) pe_int (fun _ _ => rfl)) pa_nil))) pa_nil))) pa_nil))) pa_nil))))) pss_nil)
      (pss_one (ps_ret (C8.pe_c C__law_put hr (by omega) rfl (pa_cons (pv 2) (pa_cons (pv 5) (pa_cons (pv 7) pa_nil)))))))))))),
    fn_run h (fun po => (s_seq (s_set fun _ => (a_fz (a_lc (vs := [5]) (i_list (a_call (a_cons a_var a_nil))) (g_name (by decide)) (a_tb (a_isT (by decide) (a_call (a_cons a_var (a_cons a_var a_nil))))) a_var)))
      (s_seq (s_if (fun _ => (a_test (a_op pst_rv rok_eq (a_b1 u_len (a_pk a_var)) a_int))) (s_ret fun _ => a_var) s_next)
      (s_seq (s_set fun _ => (a_op pst_pk rok_ix (a_pk a_var) (a_call (a_cons a_var (a_cons (a_b1 u_len (a_pk a_var)) a_nil)))))
      (s_seq (s_set fun _ => (a_call (a_cons a_var (a_cons a_var a_nil))))
      (s_seq (s_set fun _ => (a_op pst_pk rok_ix (a_pk (a_tup (a_cons (a_call (a_cons a_var (a_cons (a_op pst_pk rok_ix (a_pk a_var) a_int) a_nil))) (a_cons (a_op pst_rv rok_I0 a_var (a_op pst_pk rok_ix (a_pk a_var) a_int)) (a_cons (a_op pst_rv rok_I0 a_var (a_op pst_pk rok_ix (a_pk a_var) a_int)) (a_cons a_int a_nil)))))) (a_call (a_cons a_var (a_cons a_int a_nil)))))
      (s_cut (s_if (fun _ => (a_test (a_op pst_rv rok_eq a_var a_int))) (s_set fun _ => (a_call (a_cons a_var (a_cons (a_fz (a_lst (a_cons (a_tup (a_cons a_var (a_cons a_int a_nil))) (a_cons (a_tup (a_cons (a_op pst_pk rok_ix (a_pk (a_op pst_pk rok_ix (a_pk a_var) a_int)) a_int) (a_cons (a_call (a_cons a_var (a_cons (a_op pst_pk rok_ix (a_pk a_var) a_int) a_nil))) a_nil))) a_nil)))) a_nil)))) s_next)
      (s_ret fun _ => (a_call (a_cons a_var (a_cons a_var (a_cons a_var a_nil)))))))))))) (fun ds P a => by obtain ⟨_, _, _, _, _, _, rfl, _⟩ := a; exact Nat.le_of_ble_eq_true rfl) ?_⟩)
  rintro ds P ⟨p, q, b0, way, bs, d, rfl, ⟨q0, q1, p0, p1⟩, tr, ln, hp0, hp⟩
  refine seqG fun N hN => ?_
  walk_at "dd"
  refine ⟨d, rfl, ⟨tr, by omega⟩, ln, ?_⟩
  walk_at "dd"
  rw [List.length_map]
  refine ⟨ln, ?_⟩
  refine lcA_filL (g := ptU) (c := fun r => isI (atP d r)) (fun r hr Q hq1 hq2 => ?_) ?_
  · obtain ⟨e, he, hi⟩ := plcs_at' tr hr
    walk_at "dd"
    refine ⟨d, e, r, rfl, he, ?_⟩
    rw [he] at hq1 hq2
    rcases hi with ⟨i, rfl⟩ | ⟨xs, rfl⟩
    · walk_at "dd"
      exact hq1 rfl
    · walk_at "dd"
      exact hq2 rfl
  subst hN
  refine seqG fun N hN => ?_
  walk_at "dd"
  rw [List.length_map]
  refine twoD (fun _ => hp0) (fun h0 => ?_)
  have lf := List.length_filter_le (fun r => isI (atP d r)) (plcs d)
  have fm : ∀ r ∈ (plcs d).filter (fun r => isI (atP d r)), r ∈ plcs d ∧ isI (atP d r) = true := fun r hr => List.mem_filter.mp hr
  generalize (plcs d).filter (fun r => isI (atP d r)) = L at h0 lf fm ⊢
  subst hN
  refine seqG fun N hN => ?_
  walk_at "dd"
  rw [List.length_map]
  refine draw (by omega) (by omega) fun v v0 v1 => oa_any v0 v1 fun r hr => ?_
  obtain ⟨r1, r2⟩ := fm r hr
  obtain ⟨e, he, hi⟩ := plcs_at' tr r1
  rw [he] at r2
  obtain ⟨i, rfl⟩ : ∃ i, e = .int i := by
    rcases hi with hi | ⟨xs, rfl⟩
    · exact hi
    · cases r2
  subst hN
  refine seqG fun N hN => ?_
  walk_at "dd"
  refine ⟨d, _, r, rfl, he, ?_⟩
  subst hN
  refine seqG fun N hN => ?_
  unfold lgD
  walk_at "dd"
  refine draw (by omega) (by omega) fun x x0 x1 => draw (by omega) (by omega) fun y y0 y1 => ?_
  refine ix_anyT (f := Dat.int) (xs := [x, i + q, i - q, 0]) y0 y1 fun j _ => ?_
  subst hN
  refine ⟨fun env => ∃ j, env = [.d .pool, .d (.tup [.int p, .int q, .lst (.int b0 :: bs.map .int)]), .d d, .d (.int way), .d (.lst (L.map ptU)), .d (ptU r), .d (.int i), .d (.int j)], ?_, ?_⟩
  · walk_at "dd"
    refine twoD (fun _ => ?_) (fun _ => ⟨j, rfl⟩)
    refine draw (by omega) (by omega) fun y y0 y1 => ?_
    refine ⟨p, q, b0 :: bs, [(i, 1), (b0, y)], rfl, by omega, by omega, by omega, by omega, ?_⟩
    exact ⟨_, rfl⟩
  · rintro env ⟨j, rfl⟩
    walk_at "dd"
    exact ⟨d, _, _, r, rfl, plc_len tr r1, tr, he, hp r i j r1 he⟩
end

/-! ### first moves and replies with another number -/
theorem at_int {i j : Int} {r : List Nat} (h : atP (.int i) r = some (.int j)) : r = [] := by
  cases r with
  | nil => rfl
  | cons k r => cases h
theorem tupM_put {α : Type} {f : α → Dat} {xs : List α} {r : List Nat} {i : Int} (h : atP (tupM f xs) r = some (.int i)) :
    ∃ k r' x, r = k :: r' ∧ xs[k]? = some x ∧ atP (f x) r' = some (.int i) ∧ ∀ y x', putP (f x) r' y = f x' → putP (tupM f xs) r y = tupM f (xs.set k x') := by
  unfold tupM at h ⊢
  cases r with
  | nil => cases h
  | cons k r =>
    cases e : (xs.map f)[k]? with
    | none =>
      have h : ((xs.map f)[k]?).bind _ = some (Dat.int i) := h
      rw [e] at h
      cases h
    | some z =>
      rw [at_tup e] at h
      have e2 := e
      rw [List.getElem?_map] at e2
      obtain ⟨x, hx, rfl⟩ := Option.map_eq_some_iff.mp e2
      refine ⟨k, r, x, rfl, hx, h, fun y x' hy => ?_⟩
      rw [put_tup e, hy, List.map_set]
theorem two_put {a b : Dat} {r : List Nat} {i : Int} (h : atP (.tup [a, b]) r = some (.int i)) :
    ∃ r', (atP a r' = some (.int i) ∧ ∀ y, putP (.tup [a, b]) r y = .tup [putP a r' y, b]) ∨ (atP b r' = some (.int i) ∧ ∀ y, putP (.tup [a, b]) r y = .tup [a, putP b r' y]) := by
  cases r with
  | nil => cases h
  | cons k r =>
    match k, h with
    | 0, h => exact ⟨r, .inl ⟨h, fun y => put_tup (k := 0) rfl⟩⟩
    | 1, h => exact ⟨r, .inr ⟨h, fun y => put_tup (k := 1) rfl⟩⟩
    | k + 2, h => cases h
theorem mem_set {α : Type} {G : α → Prop} {xs : List α} {k : Nat} {y : α} (h : ∀ x ∈ xs, G x) (hy : G y) : ∀ x ∈ xs.set k y, G x := fun x hx => by
  rcases List.mem_or_eq_of_mem_set hx with z | rfl
  · exact h x z
  · exact hy
theorem ints_put {ms : List Int} {r : List Nat} {i j : Int} (h : atP (tupM .int ms) r = some (.int i)) : ∃ ms' : List Int, putP (tupM .int ms) r (.int j) = tupM .int ms' ∧ ms'.length = ms.length := by
  obtain ⟨k, r', x, rfl, hx, ha, hp⟩ := tupM_put h
  have := at_int ha
  subst this
  exact ⟨ms.set k j, hp _ _ (put_nil _ _), List.length_set⟩
theorem mv_put {i j : Int} : ∀ {n : Nat} {m : Mv n} {r : List Nat}, MvB n m → atP (mvD n m) r = some (.int i) → ∃ m', putP (mvD n m) r (.int j) = mvD n m' ∧ MvB n m'
  | 0, m, _, _, _ => m.elim
  | n + 1, (ms, ps), r, ⟨h1, h2, h3⟩, h => by
    rw [mvD_s] at h ⊢
    obtain ⟨r', ⟨ha, hp⟩ | ⟨ha, hp⟩⟩ := two_put h
    · obtain ⟨ms', e, l⟩ := ints_put (j := j) ha
      exact ⟨(ms', ps), by rw [hp, e, mvD_s], by omega, h2, h3⟩
    · obtain ⟨k, r2, row, rfl, hk, ha, hq⟩ := tupM_put ha
      obtain ⟨k2, r3, x, rfl, hx, ha, hq2⟩ := tupM_put ha
      obtain ⟨b1, b2⟩ := h3 row (List.mem_of_getElem? hk)
      obtain ⟨x', e, ob⟩ := mv_put (j := j) (b2 x (List.mem_of_getElem? hx)) ha
      refine ⟨(ms, ps.set k (row.set k2 x')), by rw [hp, hq _ _ (hq2 _ _ e), mvD_s], h1, by rw [List.length_set]; exact h2, mem_set h3 ⟨by rw [List.length_set]; exact b1, mem_set b2 ob⟩⟩
theorem ry_put {i j : Int} : ∀ {n : Nat} {m : Ry n} {r : List Nat}, RyB n m → atP (ryD n m) r = some (.int i) → ∃ m', putP (ryD n m) r (.int j) = ryD n m' ∧ RyB n m'
  | 0, m, _, _, _ => m.elim
  | n + 1, (ms, ps), r, ⟨h1, h2, h3⟩, h => by
    rw [ryD_s] at h ⊢
    obtain ⟨r', ⟨ha, hp⟩ | ⟨ha, hp⟩⟩ := two_put h
    · obtain ⟨ms', e, l⟩ := ints_put (j := j) ha
      exact ⟨(ms', ps), by rw [hp, e, ryD_s], by omega, h2, h3⟩
    · obtain ⟨k, r2, row, rfl, hk, ha, hq⟩ := tupM_put ha
      obtain ⟨k2, r3, x, rfl, hx, ha, hq2⟩ := tupM_put ha
      obtain ⟨b1, b2⟩ := h3 row (List.mem_of_getElem? hk)
      have bx := b2 x (List.mem_of_getElem? hx)
      obtain ⟨x', e, ob⟩ : ∃ x' : Int × Ry n, putP (rpD (ryD n) x) r3 (.int j) = rpD (ryD n) x' ∧ RyB n x'.2 := by
        obtain ⟨r4, ⟨ha, hp⟩ | ⟨ha, hp⟩⟩ := two_put (a := .int x.1) (b := ryD n x.2) ha
        · have := at_int ha
          subst this
          exact ⟨(j, x.2), by
            show putP (.tup [.int x.1, ryD n x.2]) r3 (.int j) = _
            rw [hp, put_nil]
            rfl, bx⟩
        · obtain ⟨y, e, ob⟩ := ry_put (j := j) bx ha
          exact ⟨(x.1, y), by
            show putP (.tup [.int x.1, ryD n x.2]) r3 (.int j) = _
            rw [hp, e]
            rfl, ob⟩
      refine ⟨(ms, ps.set k (row.set k2 x')), by rw [hp, hq _ _ (hq2 _ _ e), ryD_s], h1, by rw [List.length_set]; exact h2, mem_set h3 ⟨by rw [List.length_set]; exact b1, mem_set (G := fun x : Int × Ry n => RyB n x.2) b2 ob⟩⟩
/-! how many there are -/
def MvDim : (n : Nat) → Mv n → Prop
  | 0, _ => False
  | n + 1, (ms, ps) => ms.length ≤ 2 ∧ ps.length ≤ 2 ∧ ∀ l ∈ ps, (0 < l.length ∧ l.length ≤ 3) ∧ ∀ m ∈ l, MvDim n m
def RyDim : (n : Nat) → Ry n → Prop
  | 0, _ => False
  | n + 1, (ms, ps) => ms.length ≤ 3 ∧ ps.length ≤ 2 ∧ ∀ l ∈ ps, (0 < l.length ∧ l.length ≤ 3) ∧ ∀ x ∈ l, RyDim n x.2
theorem MvDim.b : ∀ {n : Nat} {m : Mv n}, MvDim n m → MvB n m
  | 0, m, _ => m.elim
  | n + 1, (ms, ps), ⟨h1, h2, h3⟩ => ⟨by omega, by omega, fun l hl => ⟨by have := (h3 l hl).1; omega, fun m hm => ((h3 l hl).2 m hm).b⟩⟩
theorem RyDim.b : ∀ {n : Nat} {m : Ry n}, RyDim n m → RyB n m
  | 0, m, _ => m.elim
  | n + 1, (ms, ps), ⟨h1, h2, h3⟩ => ⟨by omega, by omega, fun l hl => ⟨by have := (h3 l hl).1; omega, fun m hm => ((h3 l hl).2 m hm).b⟩⟩
theorem fits_dim {p q : Int} : ∀ {n : Nat} {c : Cl n} {m : Mv n} {x : Int} {r : Ry n}, ClOk n c → ClDim n c → FitsC p q n c m x r → MvDim n m ∧ RyDim n r
  | 0, c, _, _, _, _, _, _ => c.elim
  | n + 1, (s, chs), (ms, mvs), x, (rs, ans), ⟨so, _, ok⟩, ⟨d1, d2, d3, d4⟩, ⟨f1, f2, f3, _, _, f4, f5⟩ => by
    have lm : ms.length = s.eqs.length := by
      rw [← f4]
      unfold firsts
      rw [List.length_map]
    have lz : (chs.zip (mvs.zip ans)).length = chs.length := by rw [List.length_zip, List.length_zip]; omega
    have gen : ∀ (k : Nat) (mv : List (Mv n)) (an : List (Int × Ry n)), mvs[k]? = some mv → ans[k]? = some an → ((0 < mv.length ∧ mv.length ≤ 3) ∧ ∀ m ∈ mv, MvDim n m) ∧ ((0 < an.length ∧ an.length ≤ 3) ∧ ∀ x ∈ an, RyDim n x.2) := fun k mv an h1 h2 => by
      have lk := (List.getElem?_eq_some_iff.mp h1).1
      have hb : chs[k]? = some chs[k] := List.getElem?_eq_getElem (by omega)
      generalize chs[k] = bs at hb
      have mb := List.mem_of_getElem? hb
      obtain ⟨g1, g2, _, g4⟩ := f5 (bs, mv, an) (List.mem_of_getElem? (zip3A hb h1 h2))
      have g1 : mv.length = bs.length := g1
      have g2 : an.length = bs.length := g2
      have b0 := (ok bs mb).1
      have b1 := (d4 bs mb).1
      have pt : ∀ (j : Nat) (m : Mv n) (a : Int × Ry n), mv[j]? = some m → an[j]? = some a → MvDim n m ∧ RyDim n a.2 := fun j m a e1 e2 => by
        have lj := (List.getElem?_eq_some_iff.mp e1).1
        have hc : bs[j]? = some bs[j] := List.getElem?_eq_getElem (by omega)
        generalize bs[j] = b at hc
        have mc := List.mem_of_getElem? hc
        exact fits_dim ((ok bs mb).2.2 b mc) ((d4 bs mb).2 b mc) (g4 (b, m, a) (List.mem_of_getElem? (zip3A hc e1 e2)))
      refine ⟨⟨⟨by omega, by omega⟩, fun m hm => ?_⟩, ⟨⟨by omega, by omega⟩, fun a ha => ?_⟩⟩
      · obtain ⟨j, hj⟩ := List.mem_iff_getElem?.mp hm
        have lj := (List.getElem?_eq_some_iff.mp hj).1
        exact (pt j m _ hj (List.getElem?_eq_getElem (by omega))).1
      · obtain ⟨j, hj⟩ := List.mem_iff_getElem?.mp ha
        have lj := (List.getElem?_eq_some_iff.mp hj).1
        exact (pt j _ a (List.getElem?_eq_getElem (by omega)) hj).2
    refine ⟨⟨by omega, by omega, fun l hl => ?_⟩, ⟨by omega, by omega, fun l hl => ?_⟩⟩
    · obtain ⟨j, hj⟩ := List.mem_iff_getElem?.mp hl
      have lj := (List.getElem?_eq_some_iff.mp hj).1
      exact (gen j l _ hj (List.getElem?_eq_getElem (by omega))).1
    · obtain ⟨j, hj⟩ := List.mem_iff_getElem?.mp hl
      have lj := (List.getElem?_eq_some_iff.mp hj).1
      exact (gen j _ l (List.getElem?_eq_getElem (by omega)) hj).2
theorem trT_int (m : Nat) (i : Int) : trT (m + 1) (.int i) := .inl ⟨i, rfl⟩
theorem trT_map {α : Type} {m : Nat} {f : α → Dat} {xs : List α} (l : xs.length ≤ 100000) (h : ∀ x ∈ xs, trT m (f x)) : trT (m + 1) (.tup (xs.map f)) := .inr ⟨_, rfl, by rw [List.length_map]; exact l, fun d hd => by
  obtain ⟨x, hx, rfl⟩ := List.mem_map.mp hd
  exact h x hx⟩
theorem trT_two {m : Nat} {a b : Dat} (h1 : trT m a) (h2 : trT m b) : trT (m + 1) (.tup [a, b]) := .inr ⟨_, rfl, Nat.le_of_ble_eq_true rfl, fun d hd => by
  rcases List.mem_cons.mp hd with rfl | hd
  · exact h1
  · rw [List.mem_singleton.mp hd]
    exact h2⟩
theorem trT_mv : ∀ (n : Nat) (m : Mv n) (k : Nat), MvDim n m → trT (3 * n + k + 1) (mvD n m)
  | 0, m, _, _ => m.elim
  | n + 1, (ms, ps), k, ⟨h1, h2, h3⟩ => by
    rw [mvD_s, show 3 * (n + 1) + k + 1 = (3 * n + k + 1) + 1 + 1 + 1 by omega]
    exact trT_two (trT_map (by omega) fun i _ => trT_int _ _) (trT_map (by omega) fun x hx => trT_map (by have := (h3 x hx).1; omega) fun t ht => trT_mv n t k ((h3 x hx).2 t ht))
theorem trT_ry : ∀ (n : Nat) (m : Ry n) (k : Nat), RyDim n m → trT (4 * n + k + 1) (ryD n m)
  | 0, m, _, _ => m.elim
  | n + 1, (ms, ps), k, ⟨h1, h2, h3⟩ => by
    rw [ryD_s, show 4 * (n + 1) + k + 1 = (4 * n + k + 1) + 1 + 1 + 1 + 1 by omega]
    exact trT_two (trT_map (by omega) fun i _ => trT_int _ _) (trT_map (by omega) fun x hx => trT_map (by have := (h3 x hx).1; omega) fun t ht => trT_two (trT_int _ _) (trT_ry n t.2 k ((h3 x hx).2 t ht)))
theorem plcsL_b {b : Nat} : ∀ {xs : List Dat} {k : Nat}, (∀ x ∈ xs, (plcs x).length ≤ b) → (plcsL k xs).length ≤ xs.length * b
  | [], _, _ => Nat.zero_le _
  | x :: xs, k, h => by
    show ((plcs x).map (k :: ·) ++ plcsL (k + 1) xs).length ≤ _
    rw [List.length_append, List.length_map, List.length_cons, Nat.succ_mul]
    have h1 := h x List.mem_cons_self
    have h2 := plcsL_b (k := k + 1) fun y hy => h y (List.mem_cons_of_mem _ hy)
    omega
theorem plcs_map {α : Type} {f : α → Dat} {xs : List α} {a b : Nat} (l : xs.length ≤ a) (h : ∀ x ∈ xs, (plcs (f x)).length ≤ b) : (plcs (.tup (xs.map f))).length ≤ a * b + 1 := by
  rw [plcs_tup, List.length_cons]
  have h1 := plcsL_b (xs := xs.map f) (k := 0) (b := b) fun d hd => by
    obtain ⟨x, hx, rfl⟩ := List.mem_map.mp hd
    exact h x hx
  rw [List.length_map] at h1
  have := Nat.mul_le_mul_right b l
  omega
theorem plcs_two {a b : Dat} {n m : Nat} (h1 : (plcs a).length ≤ n) (h2 : (plcs b).length ≤ m) : (plcs (.tup [a, b])).length ≤ n + m + 1 := by
  show (([] : List Nat) :: ((plcs a).map (0 :: ·) ++ ((plcs b).map (1 :: ·) ++ []))).length ≤ _
  rw [List.length_cons, List.length_append, List.length_append, List.length_map, List.length_map, List.length_nil]
  omega
def cntM : Nat → Nat
  | 0 => 0
  | n + 1 => (2 * 1 + 1) + (2 * (3 * cntM n + 1) + 1) + 1
def cntR : Nat → Nat
  | 0 => 0
  | n + 1 => (3 * 1 + 1) + (2 * (3 * (1 + cntR n + 1) + 1) + 1) + 1
theorem plcs_mv : ∀ (n : Nat) (m : Mv n), MvDim n m → (plcs (mvD n m)).length ≤ cntM n
  | 0, m, _ => m.elim
  | n + 1, (ms, ps), ⟨h1, h2, h3⟩ => by
    rw [mvD_s]
    exact plcs_two (plcs_map h1 fun i _ => Nat.le_refl 1) (plcs_map h2 fun x hx => plcs_map (h3 x hx).1.2 fun t ht => plcs_mv n t ((h3 x hx).2 t ht))
theorem plcs_ry : ∀ (n : Nat) (m : Ry n), RyDim n m → (plcs (ryD n m)).length ≤ cntR n
  | 0, m, _ => m.elim
  | n + 1, (ms, ps), ⟨h1, h2, h3⟩ => by
    rw [ryD_s]
    exact plcs_two (plcs_map h1 fun i _ => Nat.le_refl 1) (plcs_map h2 fun x hx => plcs_map (h3 x hx).1.2 fun t ht => plcs_two (Nat.le_refl 1) (plcs_ry n t.2 ((h3 x hx).2 t ht)))

/-! ### resized -/
abbrev s__law_resized : Stmt := top 53
theorem sc__law_resized : FnScope ["pool", "part", "reply", "numbers", "choices", "way", "place", "row", "at"] ["pool", "part", "reply"] (defScope s__law_resized) := ⟨rfl, rfl, rfl, by decide +kernel, rfl, by decide +kernel, by decide +kernel⟩
theorem cut_m1 {xs : List Dat} : cutD xs none (some (-1)) = xs.dropLast := by
  have e : HT.sIx xs.length xs.length (some (-1)) = xs.length - 1 := by
    show (if (-1 : Int) < 0 then ((-1 : Int) + (xs.length : Int)).toNat else min (-1 : Int).toNat xs.length) = _
    rw [if_pos (by decide)]
    omega
  unfold cutD
  rw [e, show HT.sIx xs.length 0 none = 0 from rfl, List.drop_zero, Nat.sub_zero, List.dropLast_eq_take]
theorem o_two {a b : Dat} {v : Int} {P : Dat → Prop} (h1 : P a) (h2 : P b) (h0 : 0 ≤ v) (h : v < 2) : oQ (atI [a, b] v) P := by
  rcases (show v = 0 ∨ v = 1 by omega) with rfl | rfl
  · exact h1
  · exact h2
theorem res_ch {α : Type} {f : α → Dat} {ps : List α} {v : Int} {P : Dat → Prop} (l : ps.length ≤ 1000) (h : ∀ ps' : List α, ps'.length ≤ ps.length + 1 → (∀ x ∈ ps', x ∈ ps) → P (.tup (ps'.map f))) :
    (ps.map f).length + (cutD (ps.map f) none (some 1)).length ≤ 100000 ∧ (0 : Int) < 2 ∧ oQ (atI [.tup (cutD (ps.map f) none (some (-1))), .tup (ps.map f ++ cutD (ps.map f) none (some 1))] (v % 2)) fun x => P x := by
  have e1 : cutD (ps.map f) none (some 1) = (ps.take 1).map f := by
    rw [show (1 : Int) = ((1 : Nat) : Int) from rfl, cut_to, List.map_take]
  rw [e1, cut_m1, List.dropLast_eq_take, List.length_map, ← List.map_take, ← List.map_append, List.length_map]
  have l1 := List.length_take_le 1 ps
  refine ⟨by omega, by omega, o_two (h _ ?_ fun x hx => List.mem_of_mem_take hx) (h _ ?_ fun x hx => ?_) (by omega) (by omega)⟩
  · rw [List.length_take]
    omega
  · rw [List.length_append]
    omega
  · rcases List.mem_append.mp hx with z | z
    · exact z
    · exact List.mem_of_mem_take z
theorem spl_eq {α : Type} {f : α → Dat} {xs : List α} {k : Int} {y : α} (h : 0 ≤ k) : cutD (xs.map f) none (some k) ++ [f y] ++ cutD (xs.map f) (some (k + 1)) none = (xs.take k.toNat ++ [y] ++ xs.drop (k.toNat + 1)).map f := by
  obtain ⟨n, rfl⟩ : ∃ n : Nat, k = n := ⟨k.toNat, by omega⟩
  rw [cut_to, show ((n : Int) + 1) = ((n + 1 : Nat) : Int) by omega, cut_from, List.map_append, List.map_append, List.map_take, List.map_drop]
  rfl
theorem spl_mem {α : Type} {G : α → Prop} {xs : List α} {k : Nat} {y : α} (h : ∀ x ∈ xs, G x) (hy : G y) : ∀ x ∈ xs.take k ++ [y] ++ xs.drop (k + 1), G x := fun x hx => by
  rcases List.mem_append.mp hx with z | z
  · rcases List.mem_append.mp z with z | z
    · exact h x (List.mem_of_mem_take z)
    · rw [List.mem_singleton.mp z]
      exact hy
  · exact h x (List.mem_of_mem_drop z)
theorem spl_len {α : Type} {xs : List α} {k : Nat} {y : α} : (xs.take k ++ [y] ++ xs.drop (k + 1)).length ≤ xs.length + 1 := by
  rw [List.length_append, List.length_append, List.length_take, List.length_drop, List.length_singleton]
  omega
theorem rp0 {n : Nat} {f : Ry n → Dat} {x : Int × Ry n} {P : Dat → Prop} (h : P (.int x.1)) : kIx (rpD f x) (.int 0) P := h
theorem rp1 {n : Nat} {f : Ry n → Dat} {x : Int × Ry n} {P : Dat → Prop} (h : P (f x.2)) : kIx (rpD f x) (.int 1) P := h
theorem two_id {b : Bool} {A : Prop} (h : A) : two b A A := by cases b <;> exact h
theorem cut_len {xs : List Dat} {a b : Option Int} : (cutD xs a b).length ≤ xs.length := by
  unfold cutD
  rw [List.length_take, List.length_drop]
  omega
section
variable {P : Program} {w : World} {K : PySem.W.Frag} {mg : Str → Option Value} {base : Heap} {ca : Nat → Addr}
def aspLRes (n : Nat) : ASp := fun ds P => ∃ (d : Dat) (k : Bool), ds = [.pool, d, .bl k] ∧ ((k = false ∧ ∃ m : Mv n, d = mvD n m ∧ MvDim n m ∧ ∀ m', MvB n m' → P (mvD n m')) ∨ (k = true ∧ ∃ r : Ry n, d = ryD n r ∧ RyDim n r ∧ ∀ r', RyB n r' → P (ryD n r')))
theorem ok_law_resized (n : Nat) {f : Addr} {fd : FuncData} (F : Fun K "_law_resized" "_law_resized" s__law_resized f fd) (B : Blt mg) (C__law_draw : C8.Cal P w K mg base 1 "_law_draw" (toSp K ca aspDraw) []) (C__law_resized : C8.Cal P w K mg base (n + 2) "_law_resized" (toSp K ca (aspLRes n)) []) :
    FnOk P w K mg base CX0 (n + 3) f fd ["pool", "part", "reply"] (toSp K ca (aspLRes (n + 1))) := by
  refine F.ok sc__law_resized (fun vs H Q E h => sp_len (n := 3) (fun ds P a => by obtain ⟨_, _, rfl, _⟩ := a; rfl) h) (fun cdv A outer s H vs Q E hr h => ⟨_, (pss_cons (ps_asg (pv 1) (kgtup (K := K) (n := 2) rfl rfl (pgs_cons (pg_name (i := 3) sc__law_resized.nd rfl (.inl rfl)) (pgs_cons (pg_name (i := 4) sc__law_resized.nd rfl (.inl rfl)) pgs_nil))))
      (pss_cons (ps_set (i := 5) sc__law_resized.nd rfl (.inl rfl) (C8.pe_c C__law_draw hr (by omega) rfl (pa_cons (pv 0) (pa_cons pe_int pa_nil))))
      (pss_cons (ps_if (PW.pt (pw_and (pt_cmpR op_lt (pv 5) pe_int (nomark _)) (pw_and1 (pt_val (pv 2))))) (pss_one (ps_ret (pe_tupF (pa_cons (pe_ix (kixs (K := K) rfl) (pe_tupF (pa_cons (pe_slice (kslF (K := K) rfl) (pv 3) po_none (po_some (pe_un un_neg pe_int))) (pa_cons (pe_op (kcatF (K := K) rfl) (pv 3) (pe_tupF (pa_cons pe_int pa_nil))) pa_nil))) (pv 5) (fun _ _ => rfl)) (pa_cons (pv 4) pa_nil))))) pss_nil)
      (pss_cons (ps_if (PW.pt (pw_or (pt_cmpR op_lt (pv 5) pe_int (nomark _)) (pw_or1 (pt_cmpR op_eq (pe_callB (klen (K := K) rfl) (by rfl) B.len bt_len (pa_cons (pv 4) pa_nil)) pe_int (nomark _))))) (pss_one (ps_ret (pe_tupF (pa_cons (pv 3) (pa_cons (pe_ix (kixs (K := K) rfl) (pe_tupF (pa_cons (pe_slice (kslF (K := K) rfl) (pv 4) po_none (po_some (pe_un un_neg pe_int))) (pa_cons (pe_op (kcatF (K := K) rfl) (pv 4) (pe_slice (kslF (K := K) rfl) (pv 4) po_none (po_some pe_int))) pa_nil))) (pe_op op_mod (pv 5) pe_int) (fun _ _ => rfl)) pa_nil))))) pss_nil)
      (pss_cons (ps_set (i := 6) sc__law_resized.nd rfl (.inl rfl) (C8.pe_c C__law_draw hr (by omega) rfl (pa_cons (pv 0) (pa_cons (pe_callB (klen (K := K) rfl) (by rfl) B.len bt_len (pa_cons (pv 4) pa_nil)) pa_nil))))
      (pss_cons (ps_set (i := 7) sc__law_resized.nd rfl (.inl rfl) (pe_ix (kixs (K := K) rfl) (pv 4) (pv 6) (fun _ _ => rfl)))
      (pss_cons (ps_set (i := 8) sc__law_resized.nd rfl (.inl rfl) (C8.pe_c C__law_draw hr (by omega) rfl (pa_cons (pv 0) (pa_cons (pe_callB (klen (K := K) rfl) (by rfl) B.len bt_len (pa_cons (pv 7) pa_nil)) pa_nil))))
      (C8.pss_cut (ps_if (pt_cmpR op_eq (pv 5) pe_int (nomark _)) (pss_one (ps_set (i := 7) sc__law_resized.nd rfl (.inl rfl) (pe_slice (kslF (K := K) rfl) (pv 7) po_none (po_some (pe_un un_neg pe_int))))) (pss_one (ps_if (PW.pt (pw_and (pt_cmpR op_eq (pv 5) pe_int (nomark _)) (pw_and1 (pt_val (pv 2))))) (pss_one (ps_set (i := 7) sc__law_resized.nd rfl (.inl rfl) (pe_op (kcatF (K := K) rfl) (pv 7) (pe_tupF (pa_cons (pe_tupF (pa_cons pe_int (pa_cons (pe_ix (kixs (K := K) rfl) (pe_ix (kixs (K := K) rfl) (pv 7) (pv 8) (fun _ _ => rfl)) pe_int (fun _ _ => rfl)) pa_nil))) pa_nil))))) (pss_one (ps_if (pt_cmpR op_eq (pv 5) pe_int (nomark _)) (pss_one (ps_set (i := 7) sc__law_resized.nd rfl (.inl rfl) (pe_op (kcatF (K := K) rfl) (pv 7) (pe_tupF (pa_cons (pe_ix (kixs (K := K) rfl) (pv 7) (pv 8) (fun _ _ => rfl)) pa_nil))))) (pss_one (ps_if (pt_val (pv 2)) (pss_one (ps_set (i := 7) sc__law_resized.nd rfl (.inl rfl) (pe_op (kcatF (K := K) rfl) (pe_op (kcatF (K := K) rfl) (pe_slice (kslF (K := K) rfl) (pv 7) po_none (po_some (pv 8))) (pe_tupF (pa_cons (pe_tupF (pa_cons (pe_ix (kixs (K := K) rfl) (pe_ix (kixs (K := K) rfl) (pv 7) (pv 8) (fun _ _ => rfl)) pe_int (fun _ _ => rfl)) (pa_cons (C8.pe_c C__law_resized hr (by omega) rfl (pa_cons (pv 0) (pa_cons (pe_ix (kixs (K := K) rfl) (pe_ix (kixs (K := K) rfl) (pv 7) (pv 8) (fun _ _ => rfl)) pe_int (fun _ _ => rfl)) (pa_cons pe_bl pa_nil)))) pa_nil))) pa_nil))) (pe_slice (kslF (K := K) rfl) (pv 7) (po_some (pe_op op_add (pv 8) pe_int)) po_none)))) (pss_one (ps_set (i := 7) sc__law_resized.nd rfl (.inl rfl) (pe_op (kcatF (K := K) rfl) (pe_op (kcatF (K := K) rfl) (pe_slice (kslF (K := K) rfl) (pv 7) po_none (po_some (pv 8))) (pe_tupF (pa_cons (C8.pe_c C__law_resized hr (by omega) rfl (pa_cons (pv 0) (pa_cons (pe_ix (kixs (K := K) rfl) (pv 7) (pv 8) (fun _ _ => rfl)) (pa_cons pe_bl pa_nil)))) pa_nil))) (pe_slice (kslF (K := K) rfl) (pv 7) (po_some (pe_op op_add (pv 8) pe_int)) po_none)))))))))))
      (pss_one (ps_ret (pe_tupF (pa_cons (pv 3) (pa_cons (pe_op (kcatF (K := K) rfl) (pe_op (kcatF (K := K) rfl) (pe_slice (kslF (K := K) rfl) (pv 4) po_none (po_some (pv 6))) (pe_tupF (pa_cons (pv 7) pa_nil))) (pe_slice (kslF (K := K) rfl) (pv 4) (po_some (pe_op op_add (pv 6) pe_int)) po_none)) pa_nil))))))))))))),
    fn_run h (fun po => (s_seq (s_asg (vs := [3, 4]) (fun _ => a_var) (fun _ => (g_tup (g_cons (g_name (by decide)) (g_cons (g_name (by decide)) g_nil tot_name) tot_name))))
      (s_seq (s_set fun _ => (a_call (a_cons a_var (a_cons a_int a_nil))))
      (s_seq (s_if (fun _ => (a_and (a_test (a_op pst_rv rok_B0 a_var a_int)) (a_tb a_var))) (s_ret fun _ => (a_tup (a_cons (a_op pst_pk rok_ix (a_pk (a_tup (a_cons (a_slT a_var ao_none (ao_some (a_neg a_int))) (a_cons (a_op pst_rv rok_catT a_var (a_tup (a_cons a_int a_nil))) a_nil)))) a_var) (a_cons a_var a_nil)))) s_next)
      (s_seq (s_if (fun _ => (a_or (a_test (a_op pst_rv rok_B0 a_var a_int)) (a_test (a_op pst_rv rok_eq (a_b1 u_len (a_pk a_var)) a_int)))) (s_ret fun _ => (a_tup (a_cons a_var (a_cons (a_op pst_pk rok_ix (a_pk (a_tup (a_cons (a_slT a_var ao_none (ao_some (a_neg a_int))) (a_cons (a_op pst_rv rok_catT a_var (a_slT a_var ao_none (ao_some a_int))) a_nil)))) (a_op pst_rv rok_I a_var a_int)) a_nil)))) s_next)
      (s_seq (s_set fun _ => (a_call (a_cons a_var (a_cons (a_b1 u_len (a_pk a_var)) a_nil))))
      (s_seq (s_set fun _ => (a_op pst_pk rok_ix (a_pk a_var) a_var))
      (s_seq (s_set fun _ => (a_call (a_cons a_var (a_cons (a_b1 u_len (a_pk a_var)) a_nil))))
      (s_cut (s_if (fun _ => (a_test (a_op pst_rv rok_eq a_var a_int))) (s_set fun _ => (a_slT a_var ao_none (ao_some (a_neg a_int)))) (s_if (fun _ => (a_and (a_test (a_op pst_rv rok_eq a_var a_int)) (a_tb a_var))) (s_set fun _ => (a_op pst_rv rok_catT a_var (a_tup (a_cons (a_tup (a_cons a_int (a_cons (a_op pst_pk rok_ix (a_pk (a_op pst_pk rok_ix (a_pk a_var) a_var)) a_int) a_nil))) a_nil)))) (s_if (fun _ => (a_test (a_op pst_rv rok_eq a_var a_int))) (s_set fun _ => (a_op pst_rv rok_catT a_var (a_tup (a_cons (a_op pst_pk rok_ix (a_pk a_var) a_var) a_nil)))) (s_if (fun _ => (a_tb a_var)) (s_set fun _ => (a_op pst_rv rok_catT (a_op pst_rv rok_catT (a_slT a_var ao_none (ao_some a_var)) (a_tup (a_cons (a_tup (a_cons (a_op pst_pk rok_ix (a_pk (a_op pst_pk rok_ix (a_pk a_var) a_var)) a_int) (a_cons (a_call (a_cons a_var (a_cons (a_op pst_pk rok_ix (a_pk (a_op pst_pk rok_ix (a_pk a_var) a_var)) a_int) (a_cons a_bl a_nil)))) a_nil))) a_nil))) (a_slT a_var (ao_some (a_op pst_rv rok_I0 a_var a_int)) ao_none))) (s_set fun _ => (a_op pst_rv rok_catT (a_op pst_rv rok_catT (a_slT a_var ao_none (ao_some a_var)) (a_tup (a_cons (a_call (a_cons a_var (a_cons (a_op pst_pk rok_ix (a_pk a_var) a_var) (a_cons a_bl a_nil)))) a_nil))) (a_slT a_var (ao_some (a_op pst_rv rok_I0 a_var a_int)) ao_none)))))))
      (s_ret fun _ => (a_tup (a_cons a_var (a_cons (a_op pst_rv rok_catT (a_op pst_rv rok_catT (a_slT a_var ao_none (ao_some a_var)) (a_tup (a_cons a_var a_nil))) (a_slT a_var (ao_some (a_op pst_rv rok_I0 a_var a_int)) ao_none)) a_nil))))))))))))) (fun ds P a => by obtain ⟨_, _, rfl, _⟩ := a; exact Nat.le_of_ble_eq_true rfl) ?_⟩)
  rintro ds P ⟨d, k, rfl, ⟨rfl, ⟨ms, ps⟩, rfl, ⟨h1, h2, h3⟩, hp⟩ | ⟨rfl, ⟨ms, ps⟩, rfl, ⟨h1, h2, h3⟩, hp⟩⟩
  · have hp : ∀ (ms' : List Int) (ps' : List (List (Mv n))), ms'.length ≤ 1000 → ps'.length ≤ 1000 → (∀ l ∈ ps', l.length ≤ 1000 ∧ ∀ m ∈ l, MvB n m) → P (.tup [tupM .int ms', tupM (tupM (mvD n)) ps']) := fun ms' ps' a b c => hp (ms', ps') ⟨a, b, c⟩
    have hb : ∀ l ∈ ps, l.length ≤ 1000 ∧ ∀ m ∈ l, MvB n m := fun l hl => ⟨by have := (h3 l hl).1; omega, fun m hm => ((h3 l hl).2 m hm).b⟩
    rw [mvD_s]
    unfold tupM
    refine seqG fun N hN => ?_
    walk_at "dd"
    subst hN
    refine seqG fun N hN => ?_
    walk_at "dd"
    refine draw (by omega) (by omega) fun v v0 v1 => ?_
    subst hN
    refine seqG fun N hN => ?_
    walk_at "dd"
    refine two_id ?_
    subst hN
    refine seqG fun N hN => ?_
    walk_at "dd"
    rw [List.length_map]
    have rc := res_ch (f := fun xs : List (Mv n) => Dat.tup (xs.map (mvD n))) (v := v) (P := fun x => P (.tup [.tup (ms.map .int), x])) (show ps.length ≤ 1000 by omega) fun ps' l m => hp ms ps' (by omega) (by omega) fun x hx => hb x (m x hx)
    rw [List.length_map] at rc
    refine twoD (fun _ => rc) (fun _ => ?_)
    refine twoD (fun _ => rc) (fun l0 => ?_)
    subst hN
    refine seqG fun N hN => ?_
    walk_at "dd"
    rw [List.length_map]
    refine draw (by omega) (by omega) fun pl pl0 pl1 => ?_
    subst hN
    refine seqG fun N hN => ?_
    walk_at "dd"
    refine oa_any pl0 pl1 fun row hr => ?_
    obtain ⟨b0, b1⟩ := (h3 row hr).1
    subst hN
    refine seqG fun N hN => ?_
    walk_at "dd"
    rw [List.length_map]
    refine draw (by omega) (by omega) fun at_ a0 a1 => ?_
    subst hN
    refine ⟨fun env => ∃ row' : List (Mv n), env = [.d .pool, .d (.tup [.tup (ms.map .int), .tup (ps.map fun xs => .tup (xs.map (mvD n)))]), .d (.bl false), .d (.tup (ms.map .int)), .d (.tup (ps.map fun xs => .tup (xs.map (mvD n)))), .d (.int v), .d (.int pl), .d (.tup (row'.map (mvD n))), .d (.int at_)] ∧ row'.length ≤ 100 ∧ ∀ m ∈ row', MvB n m, ?_, ?_⟩
    · walk_at "dd"
      refine twoD (fun _ => ?_) (fun _ => two_id ?_)
      · rw [cut_m1, List.dropLast_eq_take, ← List.map_take]
        exact ⟨_, rfl, by rw [List.length_take]; omega, fun m hm => (hb row hr).2 m (List.mem_of_mem_take hm)⟩
      · refine twoD (fun _ => ?_) (fun _ => ?_)
        · refine oa_any a0 a1 fun m hm => ?_
          rw [List.length_map, snocM]
          refine ⟨by omega, _, rfl, by rw [List.length_append, List.length_singleton]; omega, fun x hx => ?_⟩
          rcases List.mem_append.mp hx with z | z
          · exact (hb row hr).2 x z
          · rw [List.mem_singleton.mp z]
            exact (hb row hr).2 m hm
        · refine oa_any a0 a1 fun m hm => ?_
          refine ⟨_, false, rfl, .inl ⟨rfl, m, rfl, (h3 row hr).2 m hm, fun m' hm' => ?_⟩⟩
          have c1 := cut_len (xs := row.map (mvD n)) (a := none) (b := some at_)
          have c2 := cut_len (xs := row.map (mvD n)) (a := some (at_ + 1)) (b := none)
          rw [List.length_map] at c1 c2
          refine ⟨by omega, by rw [List.length_append, List.length_singleton]; omega, ?_⟩
          rw [spl_eq a0]
          exact ⟨_, rfl, Nat.le_trans spl_len (by omega), spl_mem (hb row hr).2 hm'⟩
    · rintro env ⟨row', rfl, rl, rm⟩
      walk_at "dd"
      have c1 := cut_len (xs := ps.map fun xs : List (Mv n) => Dat.tup (xs.map (mvD n))) (a := none) (b := some pl)
      have c2 := cut_len (xs := ps.map fun xs : List (Mv n) => Dat.tup (xs.map (mvD n))) (a := some (pl + 1)) (b := none)
      rw [List.length_map] at c1 c2
      refine ⟨by omega, by rw [List.length_append, List.length_singleton]; omega, ?_⟩
      rw [spl_eq (f := fun xs : List (Mv n) => Dat.tup (xs.map (mvD n))) pl0]
      exact hp ms _ (by omega) (Nat.le_trans spl_len (by omega)) (spl_mem hb ⟨by omega, rm⟩)
  · have hp : ∀ (ms' : List Int) (ps' : List (List (Int × Ry n))), ms'.length ≤ 1000 → ps'.length ≤ 1000 → (∀ l ∈ ps', l.length ≤ 1000 ∧ ∀ m ∈ l, RyB n m.2) → P (.tup [tupM .int ms', tupM (tupM (rpD (ryD n))) ps']) := fun ms' ps' a b c => hp (ms', ps') ⟨a, b, c⟩
    have hb : ∀ l ∈ ps, l.length ≤ 1000 ∧ ∀ m ∈ l, RyB n m.2 := fun l hl => ⟨by have := (h3 l hl).1; omega, fun m hm => ((h3 l hl).2 m hm).b⟩
    rw [ryD_s]
    unfold tupM
    refine seqG fun N hN => ?_
    walk_at "dd"
    subst hN
    refine seqG fun N hN => ?_
    walk_at "dd"
    refine draw (by omega) (by omega) fun v v0 v1 => ?_
    subst hN
    refine seqG fun N hN => ?_
    walk_at "dd"
    refine twoD (fun h2 => ?_) (fun _ => ?_)
    · rw [List.length_map]
      refine ⟨by omega, ?_⟩
      refine o_two ?_ ?_ v0 h2
      · rw [cut_m1, List.dropLast_eq_take, ← List.map_take]
        exact hp _ ps (by rw [List.length_take, List.length_map]; omega) (by omega) hb
      · rw [snocM]
        exact hp _ ps (by rw [List.length_append, List.length_singleton]; omega) (by omega) hb
    subst hN
    refine seqG fun N hN => ?_
    walk_at "dd"
    rw [List.length_map]
    have rc := res_ch (f := fun xs : List (Int × Ry n) => Dat.tup (xs.map (rpD (ryD n)))) (v := v) (P := fun x => P (.tup [.tup (ms.map .int), x])) (show ps.length ≤ 1000 by omega) fun ps' l m => hp ms ps' (by omega) (by omega) fun x hx => hb x (m x hx)
    rw [List.length_map] at rc
    refine twoD (fun _ => rc) (fun _ => ?_)
    refine twoD (fun _ => rc) (fun l0 => ?_)
    subst hN
    refine seqG fun N hN => ?_
    walk_at "dd"
    rw [List.length_map]
    refine draw (by omega) (by omega) fun pl pl0 pl1 => ?_
    subst hN
    refine seqG fun N hN => ?_
    walk_at "dd"
    refine oa_any pl0 pl1 fun row hr => ?_
    obtain ⟨b0, b1⟩ := (h3 row hr).1
    subst hN
    refine seqG fun N hN => ?_
    walk_at "dd"
    rw [List.length_map]
    refine draw (by omega) (by omega) fun at_ a0 a1 => ?_
    subst hN
    refine ⟨fun env => ∃ row' : List (Int × Ry n), env = [.d .pool, .d (.tup [.tup (ms.map .int), .tup (ps.map fun xs => .tup (xs.map (rpD (ryD n))))]), .d (.bl true), .d (.tup (ms.map .int)), .d (.tup (ps.map fun xs => .tup (xs.map (rpD (ryD n))))), .d (.int v), .d (.int pl), .d (.tup (row'.map (rpD (ryD n)))), .d (.int at_)] ∧ row'.length ≤ 100 ∧ ∀ m ∈ row', RyB n m.2, ?_, ?_⟩
    · walk_at "dd"
      refine twoD (fun _ => ?_) (fun _ => ?_)
      · rw [cut_m1, List.dropLast_eq_take, ← List.map_take]
        exact ⟨_, rfl, by rw [List.length_take]; omega, fun m hm => (hb row hr).2 m (List.mem_of_mem_take hm)⟩
      refine twoD (fun _ => ?_) (fun h5 => twoD (fun h => absurd h h5) fun _ => ?_)
      · refine oa_any a0 a1 fun m hm => rp1 ?_
        rw [List.length_map, show (Dat.tup [.int 0, ryD n m.2]) = rpD (ryD n) (0, m.2) from rfl, snocM]
        refine ⟨by omega, _, rfl, by rw [List.length_append, List.length_singleton]; omega, fun x hx => ?_⟩
        rcases List.mem_append.mp hx with z | z
        · exact (hb row hr).2 x z
        · rw [List.mem_singleton.mp z]
          exact (hb row hr).2 m hm
      · refine oa_any a0 a1 fun m' _ => rp0 (oa_any a0 a1 fun m hm => rp1 ?_)
        refine ⟨_, true, rfl, .inr ⟨rfl, m.2, rfl, (h3 row hr).2 m hm, fun r' hr' => ?_⟩⟩
        have c1 := cut_len (xs := row.map (rpD (ryD n))) (a := none) (b := some at_)
        have c2 := cut_len (xs := row.map (rpD (ryD n))) (a := some (at_ + 1)) (b := none)
        rw [List.length_map] at c1 c2
        refine ⟨by omega, by rw [List.length_append, List.length_singleton]; omega, ?_⟩
        rw [show (Dat.tup [.int m'.1, ryD n r']) = rpD (ryD n) (m'.1, r') from rfl, spl_eq a0]
        exact ⟨_, rfl, Nat.le_trans spl_len (by omega), spl_mem (G := fun x : Int × Ry n => RyB n x.2) (hb row hr).2 hr'⟩
    · rintro env ⟨row', rfl, rl, rm⟩
      walk_at "dd"
      have c1 := cut_len (xs := ps.map fun xs : List (Int × Ry n) => Dat.tup (xs.map (rpD (ryD n)))) (a := none) (b := some pl)
      have c2 := cut_len (xs := ps.map fun xs : List (Int × Ry n) => Dat.tup (xs.map (rpD (ryD n)))) (a := some (pl + 1)) (b := none)
      rw [List.length_map] at c1 c2
      refine ⟨by omega, by rw [List.length_append, List.length_singleton]; omega, ?_⟩
      rw [spl_eq (f := fun xs : List (Int × Ry n) => Dat.tup (xs.map (rpD (ryD n)))) pl0]
      exact hp ms _ (by omega) (Nat.le_trans spl_len (by omega)) (spl_mem hb ⟨by omega, rm⟩)
theorem rec_law_resized {f : Addr} {fd : FuncData} (F : Fun K "_law_resized" "_law_resized" s__law_resized f fd) (m : mg "_law_resized" = some (.ref f)) (k : PySem.W.keepIn K (.ref f) = true) (b : Binds K fd ["pool", "part", "reply"] []) (B : Blt mg) (C__law_draw : C8.Cal P w K mg base 1 "_law_draw" (toSp K ca aspDraw) []) :
    ∀ n, C8.Cal P w K mg base (n + 2) "_law_resized" (toSp K ca (aspLRes n)) []
  | 0 => ⟨⟨f, fd, _, [], fn_vac fun _ _ ⟨_, _, _, h⟩ => by
    rcases h with ⟨_, m, _⟩ | ⟨_, m, _⟩
    · exact m.elim
    · exact m.elim, m, k, b, .nil⟩⟩
  | n + 1 => ⟨⟨f, fd, _, [], ok_law_resized n F B C__law_draw (rec_law_resized F m k b B C__law_draw n), m, k, b, .nil⟩⟩
end

/-! ### other witnesses -/
abbrev s__law_any_witness : Stmt := top 54
theorem sc__law_any_witness : FnScope ["pool", "group", "claim", "chosen", "branches", "index"] ["pool", "group", "claim"] (defScope s__law_any_witness) := ⟨rfl, rfl, rfl, by decide +kernel, rfl, by decide +kernel, by decide +kernel⟩
abbrev s__law_less : Stmt := top 55
theorem sc__law_less : FnScope ["pool", "group", "claim", "witness", "values", "chosen", "place", "index", "inner"] ["pool", "group", "claim", "witness"] (defScope s__law_less) := ⟨rfl, rfl, rfl, by decide +kernel, rfl, by decide +kernel, by decide +kernel⟩
theorem spl_set {α : Type} {xs : List α} {k : Nat} {y : α} (h : k < xs.length) : xs.take k ++ [y] ++ xs.drop (k + 1) = xs.set k y := by
  rw [List.set_eq_take_append_cons_drop, if_pos h, List.append_assoc]
  rfl
section
variable {P : Program} {w : World} {K : PySem.W.Frag} {mg : Str → Option Value} {base : Heap} {ca : Nat → Addr}
def aspLAny (n : Nat) : ASp := fun ds P => ∃ (p q : Int) (bs : List Int) (c : Cl n), ds = [.pool, lgD p q bs, clL n c] ∧ (0 < q ∧ q < 1073741824 ∧ 1 < p ∧ p < 2147483648) ∧ ClOk n c ∧ ∀ wt, WtFit n c wt → P (wtD n wt)
theorem ok_law_any_witness (n : Nat) {f : Addr} {fd : FuncData} (F : Fun K "_law_any_witness" "_law_any_witness" s__law_any_witness f fd) (B : Blt mg) (C__law_draw : C8.Cal P w K mg base 1 "_law_draw" (toSp K ca aspDraw) []) (C__law_numbers : C8.Cal P w K mg base 2 "_law_numbers" (toSp K ca aspLNumbers) []) (C__law_any_witness : C8.Cal P w K mg base (n + 3) "_law_any_witness" (toSp K ca (aspLAny n)) []) :
    FnOk P w K mg base CX0 (n + 4) f fd ["pool", "group", "claim"] (toSp K ca (aspLAny (n + 1))) := by
  refine F.ok sc__law_any_witness (fun vs H Q E h => sp_len (n := 3) (fun ds P a => by obtain ⟨_, _, _, _, rfl, _⟩ := a; rfl) h) (fun cdv A outer s H vs Q E hr h => ⟨_, (pss_cons (ps_set (i := 3) sc__law_any_witness.nd rfl (.inl rfl) (pe_lst pa_nil))
      (pss_cons (ps_for PassesOwn.never rfl (kpit (K := K) rfl (pe_ix (kixs (K := K) rfl) (pv 2) pe_int (fun _ _ => rfl))) (pg_name (i := 4) sc__law_any_witness.nd rfl (.inl rfl))
      (pss_cons (ps_set (i := 5) sc__law_any_witness.nd rfl (.inl rfl) (C8.pe_c C__law_draw hr (by omega) rfl (pa_cons (pv 0) (pa_cons (pe_callB (klen (K := K) rfl) (by rfl) B.len bt_len (pa_cons (pv 4) pa_nil)) pa_nil))))
      (pss_one (ps_expr (pe_bm PySem.F.plainAttrs_list PySem.F.slot_list_append PySem.F.type_list_append mt_append (pv 3) (pa_cons (pe_tupF (pa_cons (pv 5) (pa_cons (C8.pe_c C__law_any_witness hr (by omega) rfl (pa_cons (pv 0) (pa_cons (pv 1) (pa_cons (pe_ix (kixs (K := K) rfl) (pv 4) (pv 5) (fun _ _ => rfl)) pa_nil)))) pa_nil))) pa_nil))))))
      (pss_one (ps_ret (pe_tupF (pa_cons (pe_callTy (ktupF (K := K) rfl) (by rfl) B.tuple bt_tuple (pa_cons (C8.pe_c C__law_numbers hr (by omega) rfl (pa_cons (pv 0) (pa_cons (pv 1) (pa_cons (pe_callB (klen (K := K) rfl) (by rfl) B.len bt_len (pa_cons (pe_ix (kixs (K := K) rfl) (pe_ix (kixs (K := K) rfl) (pv 2) pe_int (fun _ _ => rfl)) pe_int (fun _ _ => rfl)) pa_nil)) pa_nil)))) pa_nil)) (pa_cons (pe_callTy (ktupF (K := K) rfl) (by rfl) B.tuple bt_tuple (pa_cons (pv 3) pa_nil)) pa_nil))))))),
    fn_run h (fun po => (s_seq (s_setO fun _ => (a_lst a_nil))
      (s_seq (s_for (vs := [4]) (fun _ => (i_tup (a_op pst_pk rok_ix (a_pk a_var) a_int))) (fun _ => (g_name (by decide)))
      (s_seq (s_set fun _ => (a_call (a_cons a_var (a_cons (a_b1 u_len (a_pk a_var)) a_nil))))
      (s_app fun _ => (a_tup (a_cons a_var (a_cons (a_call (a_cons a_var (a_cons a_var (a_cons (a_op pst_pk rok_ix (a_pk a_var) a_var) a_nil)))) a_nil))))))
      (s_ret fun _ => (a_tup (a_cons (a_b1 u_tupOf (a_pk (a_call (a_cons a_var (a_cons a_var (a_cons (a_b1 u_len (a_pk (a_op pst_pk rok_ix (a_pk (a_op pst_pk rok_ix (a_pk a_var) a_int)) a_int))) a_nil)))))) (a_cons (a_b1 u_tupOf a_peek) a_nil))))))) (fun ds P a => by obtain ⟨_, _, _, _, rfl, _⟩ := a; exact Nat.le_of_ble_eq_true rfl) ?_⟩)
  rintro ds P ⟨p, q, bs, ⟨s, chs⟩, rfl, ⟨q0, q1, p0, p1⟩, ⟨so, hl, ok⟩, hp⟩
  rw [clL_s]
  unfold stL tupM
  walk_at "dd"
  refine forA_suf (fun rest env => ∃ (zs : List (List (Cl n) × (Nat × Wt n))) (y4 y5 : Sl), env = [.d .pool, .d (lgD p q bs), .d (.tup [.tup [.tup (s.us.map .str), .tup (s.eqs.map eqD)], .tup (chs.map fun bs => .tup (bs.map (clL n)))]), .o ((zs.map (·.2)).map (pkD (wtD n))), y4, y5] ∧ zs.map (·.1) ++ rest = chs ∧ ∀ z ∈ zs, ∃ b, z.1[z.2.1]? = some b ∧ WtFit n b z.2.2) ?_ ?_ chs _ ⟨[], _, _, rfl, rfl, fun z hz => nomatch hz⟩
  · rintro bs' rest env ⟨zs, y4, y5, rfl, eq, hz⟩ N hN
    obtain ⟨b0, b1, okb⟩ := ok bs' (by rw [← eq]; exact List.mem_append_right _ List.mem_cons_self)
    have lz : zs.length < chs.length := by
      rw [← eq, List.length_append, List.length_map, List.length_cons]
      omega
    walk_at "dd"
    rw [List.length_map]
    refine draw (by omega) (by omega) fun v v0 v1 => ?_
    refine ⟨by rw [List.length_map, List.length_map]; omega, ?_⟩
    have hv : bs'[v.toNat]? = some bs'[v.toNat] := List.getElem?_eq_getElem (by omega)
    generalize bs'[v.toNat] = b at hv
    refine ix_atT (f := clL n) (Int.toNat_of_nonneg v0).symm hv ?_
    refine ⟨p, q, bs, b, rfl, ⟨q0, q1, p0, p1⟩, okb b (List.mem_of_getElem? hv), fun wt hw => ?_⟩
    dsimp only
    have e1 : (zs.map (·.2)).map (pkD (wtD n)) ++ [Dat.tup [.int v, wtD n wt]] = ((zs ++ [(bs', (v.toNat, wt))]).map (·.2)).map (pkD (wtD n)) := by
      rw [show (Dat.tup [.int v, wtD n wt]) = pkD (wtD n) (v.toNat, wt) by unfold pkD; rw [Int.toNat_of_nonneg v0]]
      exact snocF (fun z : List (Cl n) × (Nat × Wt n) => z.2) (pkD (wtD n)) zs (bs', (v.toNat, wt))
    rw [e1]
    refine hN _ ⟨zs ++ [(bs', (v.toNat, wt))], _, _, rfl, by rw [List.map_append, List.append_assoc]; exact eq, fun z hz' => ?_⟩
    rcases List.mem_append.mp hz' with h | h
    · exact hz z h
    · rw [List.mem_singleton.mp h]
      exact ⟨b, hv, hw⟩
  · rintro env ⟨zs, y4, y5, rfl, eq, hz⟩
    rw [List.append_nil] at eq
    walk_at "dd"
    have lu := so.lu
    rw [List.length_map]
    refine ⟨p, q, _, bs, rfl, by omega, by omega, by omega, by omega, fun ns ln _ => ?_⟩
    refine hp (ns, zs.map (·.2)) ⟨by show ns.length = s.us.length; omega, ?_, fun x hx => ?_⟩
    · show (zs.map (·.2)).length = chs.length
      rw [← eq, List.length_map, List.length_map]
    · rw [← eq, zip_fs] at hx
      exact hz x hx
def aspLLess (n : Nat) : ASp := fun ds P => ∃ (p q : Int) (bs : List Int) (c : Cl n) (wt : Wt n), ds = [.pool, lgD p q bs, clL n c, wtD n wt] ∧ (0 < q ∧ q < 1073741824 ∧ 1 < p ∧ p < 2147483648) ∧ ClOk n c ∧ WtFit n c wt ∧ ∀ wt, WtFit n c wt → P (wtD n wt)
theorem ok_law_less (n : Nat) {f : Addr} {fd : FuncData} (F : Fun K "_law_less" "_law_less" s__law_less f fd) (B : Blt mg) (C__law_draw : C8.Cal P w K mg base 1 "_law_draw" (toSp K ca aspDraw) []) (C__law_any_witness : C8.Cal P w K mg base (n + 3) "_law_any_witness" (toSp K ca (aspLAny n)) []) (C__law_less : C8.Cal P w K mg base (n + 4) "_law_less" (toSp K ca (aspLLess n)) []) :
    FnOk P w K mg base CX0 (n + 5) f fd ["pool", "group", "claim", "witness"] (toSp K ca (aspLLess (n + 1))) := by
  refine F.ok sc__law_less (fun vs H Q E h => sp_len (n := 4) (fun ds P a => by obtain ⟨_, _, _, _, _, rfl, _⟩ := a; rfl) h) (fun cdv A outer s H vs Q E hr h => ⟨_, (pss_cons (ps_asg (pv 3) (kgtup (K := K) (n := 2) rfl rfl (pgs_cons (pg_name (i := 4) sc__law_less.nd rfl (.inl rfl)) (pgs_cons (pg_name (i := 5) sc__law_less.nd rfl (.inl rfl)) pgs_nil))))
      (pss_cons (ps_if (PW.pt (pw_and (pt_cmpR op_gt (pe_callB (klen (K := K) rfl) (by rfl) B.len bt_len (pa_cons (pv 5) pa_nil)) pe_int (nomark _)) (pw_and1 (pt_cmpR op_gt (C8.pe_c C__law_draw hr (by omega) rfl (pa_cons (pv 0) (pa_cons pe_int pa_nil))) pe_int (nomark _))))) (pss_cons (ps_set (i := 6) sc__law_less.nd rfl (.inl rfl) (C8.pe_c C__law_draw hr (by omega) rfl (pa_cons (pv 0) (pa_cons (pe_callB (klen (K := K) rfl) (by rfl) B.len bt_len (pa_cons (pv 5) pa_nil)) pa_nil))))
      (pss_cons (ps_asg (pe_ix (kixs (K := K) rfl) (pv 5) (pv 6) (fun _ _ => rfl)) (kgtup (K := K) (n := 2) rfl rfl (pgs_cons (pg_name (i := 7) sc__law_less.nd rfl (.inl rfl)) (pgs_cons (pg_name (i := 8) sc__law_less.nd rfl (.inl rfl)) pgs_nil))))
      (C8.pss_cut (ps_if (pt_cmpR op_eq (C8.pe_c C__law_draw hr (by omega) rfl (pa_cons (pv 0) (pa_cons pe_int pa_nil))) pe_int (nomark _)) (pss_cons (ps_set (i := 7) sc__law_less.nd rfl (.inl rfl) (C8.pe_c C__law_draw hr (by omega) rfl (pa_cons (pv 0) (pa_cons (pe_callB (klen (K := K) rfl) (by rfl) B.len bt_len (pa_cons (pe_ix (kixs (K := K) rfl) (pe_ix (kixs (K := K) rfl) (pv 2) pe_int (fun _ _ => rfl)) (pv 6) (fun _ _ => rfl)) pa_nil)) pa_nil))))
      (pss_one (ps_set (i := 8) sc__law_less.nd rfl (.inl rfl) (C8.pe_c C__law_any_witness hr (by omega) rfl (pa_cons (pv 0) (pa_cons (pv 1) (pa_cons (pe_ix (kixs (K := K) rfl) (pe_ix (kixs (K := K) rfl) (pe_ix (kixs (K := K) rfl) (pv 2) pe_int (fun _ _ => rfl)) (pv 6) (fun _ _ => rfl)) (pv 7) (fun _ _ => rfl)) pa_nil))))))) (pss_one (ps_set (i := 8) sc__law_less.nd rfl (.inl rfl) (C8.pe_c C__law_less hr (by omega) rfl (pa_cons (pv 0) (pa_cons (pv 1) (pa_cons (pe_ix (kixs (K := K) rfl) (pe_ix (kixs (K := K) rfl) (pe_ix (kixs (K := K) rfl) (pv 2) pe_int (fun _ _ => rfl)) (pv 6) (fun _ _ => rfl)) (pv 7) (fun _ _ => rfl)) (pa_cons (pv 8) pa_nil))))))))
      (pss_one (ps_ret (pe_tupF (pa_cons (pv 4) (pa_cons (pe_op (kcatF (K := K) rfl) (pe_op (kcatF (K := K) rfl) (pe_slice (kslF (K := K) rfl) (pv 5) po_none (po_some (pv 6))) (pe_tupF (pa_cons (pe_tupF (pa_cons (pv 7) (pa_cons (pv 8) pa_nil))) pa_nil))) (pe_slice (kslF (K := K) rfl) (pv 5) (po_some (pe_op op_add (pv 6) pe_int)) po_none)) pa_nil)))))))) pss_nil)
      (C8.pss_cut (ps_if (pt_cmpR op_gt (pe_callB (klen (K := K) rfl) (by rfl) B.len bt_len (pa_cons (pv 4) pa_nil)) pe_int (nomark _)) (pss_cons (ps_set (i := 6) sc__law_less.nd rfl (.inl rfl) (C8.pe_c C__law_draw hr (by omega) rfl (pa_cons (pv 0) (pa_cons (pe_callB (klen (K := K) rfl) (by rfl) B.len bt_len (pa_cons (pv 4) pa_nil)) pa_nil))))
      (pss_one (ps_set (i := 4) sc__law_less.nd rfl (.inl rfl) (pe_op (kcatF (K := K) rfl) (pe_op (kcatF (K := K) rfl) (pe_slice (kslF (K := K) rfl) (pv 4) po_none (po_some (pv 6))) (pe_tupF (pa_cons (C8.pe_c C__law_draw hr (by omega) rfl (pa_cons (pv 0) (pa_cons (pe_ix (kixs (K := K) rfl) (pv 1) pe_int (fun _ _ => rfl)) pa_nil))) pa_nil))) (pe_slice (kslF (K := K) rfl) (pv 4) (po_some (pe_op op_add (pv 6) pe_int)) po_none))))) pss_nil)
      (pss_one (ps_ret (pe_tupF (pa_cons (pv 4) (pa_cons (pv 5) pa_nil)))))))),
    fn_run h (fun po => (s_seq (s_asg (vs := [4, 5]) (fun _ => a_var) (fun _ => (g_tup (g_cons (g_name (by decide)) (g_cons (g_name (by decide)) g_nil tot_name) tot_name))))
      (s_seq (s_if (fun _ => (a_and (a_test (a_op pst_rv rok_B0 (a_b1 u_len (a_pk a_var)) a_int)) (a_test (a_op pst_rv rok_B0 (a_call (a_cons a_var (a_cons a_int a_nil))) a_int)))) (s_seq (s_set fun _ => (a_call (a_cons a_var (a_cons (a_b1 u_len (a_pk a_var)) a_nil))))
      (s_seq (s_asg (vs := [7, 8]) (fun _ => (a_op pst_pk rok_ix (a_pk a_var) a_var)) (fun _ => (g_tup (g_cons (g_name (by decide)) (g_cons (g_name (by decide)) g_nil tot_name) tot_name))))
      (s_cut (s_if (fun _ => (a_test (a_op pst_rv rok_eq (a_call (a_cons a_var (a_cons a_int a_nil))) a_int))) (s_seq (s_set fun _ => (a_call (a_cons a_var (a_cons (a_b1 u_len (a_pk (a_op pst_pk rok_ix (a_pk (a_op pst_pk rok_ix (a_pk a_var) a_int)) a_var))) a_nil))))
      (s_set fun _ => (a_call (a_cons a_var (a_cons a_var (a_cons (a_op pst_pk rok_ix (a_pk (a_op pst_pk rok_ix (a_pk (a_op pst_pk rok_ix (a_pk a_var) a_int)) a_var)) a_var) a_nil)))))) (s_set fun _ => (a_call (a_cons a_var (a_cons a_var (a_cons (a_op pst_pk rok_ix (a_pk (a_op pst_pk rok_ix (a_pk (a_op pst_pk rok_ix (a_pk a_var) a_int)) a_var)) a_var) (a_cons a_var a_nil)))))))
      (s_ret fun _ => (a_tup (a_cons a_var (a_cons (a_op pst_rv rok_catT (a_op pst_rv rok_catT (a_slT a_var ao_none (ao_some a_var)) (a_tup (a_cons (a_tup (a_cons a_var (a_cons a_var a_nil))) a_nil))) (a_slT a_var (ao_some (a_op pst_rv rok_I0 a_var a_int)) ao_none)) a_nil))))))) s_next)
      (s_cut (s_if (fun _ => (a_test (a_op pst_rv rok_B0 (a_b1 u_len (a_pk a_var)) a_int))) (s_seq (s_set fun _ => (a_call (a_cons a_var (a_cons (a_b1 u_len (a_pk a_var)) a_nil))))
      (s_set fun _ => (a_op pst_rv rok_catT (a_op pst_rv rok_catT (a_slT a_var ao_none (ao_some a_var)) (a_tup (a_cons (a_call (a_cons a_var (a_cons (a_op pst_pk rok_ix (a_pk a_var) a_int) a_nil))) a_nil))) (a_slT a_var (ao_some (a_op pst_rv rok_I0 a_var a_int)) ao_none)))) s_next)
      (s_ret fun _ => (a_tup (a_cons a_var (a_cons a_var a_nil)))))))) (fun ds P a => by obtain ⟨_, _, _, _, _, rfl, _⟩ := a; exact Nat.le_of_ble_eq_true rfl) ?_⟩)
  rintro ds P ⟨p, q, bs, ⟨s, chs⟩, ⟨vs, pks⟩, rfl, ⟨q0, q1, p0, p1⟩, ⟨so, hl, ok⟩, ⟨w1, w3, w4⟩, hp⟩
  rw [clL_s, wtD_s]
  unfold tupM
  refine seqG fun N hN => ?_
  walk_at "dd"
  subst hN
  refine seqG fun N hN => ?_
  walk_at "dd"
  have fin : ∀ y6 y7 y8 : Sl, N [.d .pool, .d (lgD p q bs), .d (.tup [stL s.us s.eqs, .tup (chs.map fun xs => .tup (xs.map (clL n)))]), .d (.tup [.tup (vs.map .int), .tup (pks.map (pkD (wtD n)))]), .d (.tup (vs.map .int)), .d (.tup (pks.map (pkD (wtD n)))), y6, y7, y8] := fun y6 y7 y8 => by
    rw [hN]
    refine ⟨fun env => ∃ (vs' : List Int) (y6 : Sl), env = [.d .pool, .d (lgD p q bs), .d (.tup [stL s.us s.eqs, .tup (chs.map fun xs => .tup (xs.map (clL n)))]), .d (.tup [.tup (vs.map .int), .tup (pks.map (pkD (wtD n)))]), .d (.tup (vs'.map .int)), .d (.tup (pks.map (pkD (wtD n)))), y6, y7, y8] ∧ vs'.length = vs.length, ?_, ?_⟩
    · unfold lgD
      walk_at "dd"
      rw [List.length_map]
      have lu := so.lu
      refine twoD (fun h0 => ?_) (fun _ => ⟨vs, _, rfl, rfl⟩)
      refine draw (by omega) (by omega) fun pl pl0 pl1 => ?_
      have c1 := cut_len (xs := vs.map .int) (a := none) (b := some pl)
      have c2 := cut_len (xs := vs.map .int) (a := some (pl + 1)) (b := none)
      rw [List.length_map] at c1 c2
      walk_at "dd"
      refine draw (by omega) (by omega) fun x x0 x1 => ?_
      refine ⟨by omega, by rw [List.length_append, List.length_singleton]; omega, ?_⟩
      rw [spl_eq pl0, spl_set (by omega)]
      exact ⟨_, _, rfl, List.length_set⟩
    · rintro env ⟨vs', y6, rfl, lv⟩
      walk_at "dd"
      exact hp (vs', pks) ⟨by show vs'.length = s.us.length; omega, w3, w4⟩
  rw [List.length_map]
  refine twoD (fun h0 => ?_) (fun _ => fin _ _ _)
  refine draw (by omega) (by omega) fun t t0 t1 => ?_
  walk_at "dd"
  refine twoD (fun _ => ?_) (fun _ => fin _ _ _)
  refine draw (by omega) (by omega) fun pl pl0 pl1 => ?_
  have hpl : pks[pl.toNat]? = some pks[pl.toNat] := List.getElem?_eq_getElem (by omega)
  have hbl : chs[pl.toNat]? = some chs[pl.toNat] := List.getElem?_eq_getElem (by omega)
  generalize pks[pl.toNat] = pk at hpl
  generalize chs[pl.toNat] = bl at hbl
  refine ix_atT (f := pkD (wtD n)) (Int.toNat_of_nonneg pl0).symm hpl ?_
  rw [show pkD (wtD n) pk = .tup [.int (pk.1 : Nat), wtD n pk.2] from rfl]
  walk_at "dd"
  obtain ⟨b, hb, hw⟩ := w4 (bl, pk) (List.mem_of_getElem? (zpA hbl hpl))
  have hb : bl[pk.1]? = some b := hb
  obtain ⟨b0, b1, okb⟩ := ok bl (List.mem_of_getElem? hbl)
  refine ⟨fun env => ∃ (ix : Nat) (wi : Wt n), env = [.d .pool, .d (lgD p q bs), .d (.tup [stL s.us s.eqs, .tup (chs.map fun xs => .tup (xs.map (clL n)))]), .d (.tup [.tup (vs.map .int), .tup (pks.map (pkD (wtD n)))]), .d (.tup (vs.map .int)), .d (.tup (pks.map (pkD (wtD n)))), .d (.int pl), .d (.int (ix : Nat)), .d (wtD n wi)] ∧ ∃ b, bl[ix]? = some b ∧ WtFit n b wi, ?_, ?_⟩
  · walk_at "dd"
    refine draw (by omega) (by omega) fun t t0 t1 => ?_
    walk_at "dd"
    refine twoD (fun _ => ?_) (fun _ => ?_)
    · refine oa_at (Int.toNat_of_nonneg pl0).symm hbl ?_
      walk_at "dd"
      rw [List.length_map]
      refine draw (by omega) (by omega) fun v v0 v1 => ?_
      refine oa_at (Int.toNat_of_nonneg pl0).symm hbl ?_
      have hv : bl[v.toNat]? = some bl[v.toNat] := List.getElem?_eq_getElem (by omega)
      generalize bl[v.toNat] = b' at hv
      refine ix_atT (f := clL n) (Int.toNat_of_nonneg v0).symm hv ?_
      refine ⟨p, q, bs, b', rfl, ⟨q0, q1, p0, p1⟩, okb b' (List.mem_of_getElem? hv), fun wt hw => ?_⟩
      exact ⟨v.toNat, wt, by rw [Int.toNat_of_nonneg v0], b', hv, hw⟩
    · refine oa_at (Int.toNat_of_nonneg pl0).symm hbl ?_
      refine ix_atT (f := clL n) rfl hb ?_
      exact ⟨p, q, bs, b, pk.2, rfl, ⟨q0, q1, p0, p1⟩, okb b (List.mem_of_getElem? hb), hw, fun wt hw => ⟨pk.1, wt, rfl, b, hb, hw⟩⟩
  · rintro env ⟨ix, wi, rfl, b, hb, hw⟩
    have c1 := cut_len (xs := pks.map (pkD (wtD n))) (a := none) (b := some pl)
    have c2 := cut_len (xs := pks.map (pkD (wtD n))) (a := some (pl + 1)) (b := none)
    rw [List.length_map] at c1 c2
    walk_at "dd"
    refine ⟨by omega, by rw [List.length_append, List.length_singleton]; omega, ?_⟩
    rw [show (Dat.tup [.int (ix : Nat), wtD n wi]) = pkD (wtD n) (ix, wi) from rfl, spl_eq pl0, spl_set (by omega)]
    refine hp (vs, pks.set pl.toNat (ix, wi)) ⟨w1, by show (pks.set pl.toNat (ix, wi)).length = chs.length; rw [List.length_set]; exact w3, fun x hx => ?_⟩
    obtain ⟨j, hj⟩ := List.mem_iff_getElem?.mp hx
    obtain ⟨j1, j2⟩ := zipAt hj
    by_cases z : j = pl.toNat
    · subst z
      rw [List.getElem?_set_self (by omega)] at j2
      rw [hbl] at j1
      rw [← Option.some.inj j1, ← Option.some.inj j2]
      exact ⟨b, hb, hw⟩
    · rw [List.getElem?_set_ne (Ne.symm z)] at j2
      exact w4 x (List.mem_of_getElem? (zpA j1 j2))
theorem rec_law_any {f : Addr} {fd : FuncData} (F : Fun K "_law_any_witness" "_law_any_witness" s__law_any_witness f fd) (m : mg "_law_any_witness" = some (.ref f)) (k : PySem.W.keepIn K (.ref f) = true) (b : Binds K fd ["pool", "group", "claim"] []) (B : Blt mg) (C__law_draw : C8.Cal P w K mg base 1 "_law_draw" (toSp K ca aspDraw) []) (C__law_numbers : C8.Cal P w K mg base 2 "_law_numbers" (toSp K ca aspLNumbers) []) :
    ∀ n, C8.Cal P w K mg base (n + 3) "_law_any_witness" (toSp K ca (aspLAny n)) []
  | 0 => ⟨⟨f, fd, _, [], fn_vac fun _ _ ⟨_, _, _, c, _⟩ => c.elim, m, k, b, .nil⟩⟩
  | n + 1 => ⟨⟨f, fd, _, [], ok_law_any_witness n F B C__law_draw C__law_numbers (rec_law_any F m k b B C__law_draw C__law_numbers n), m, k, b, .nil⟩⟩
theorem rec_law_less {f : Addr} {fd : FuncData} (F : Fun K "_law_less" "_law_less" s__law_less f fd) (m : mg "_law_less" = some (.ref f)) (k : PySem.W.keepIn K (.ref f) = true) (b : Binds K fd ["pool", "group", "claim", "witness"] []) (B : Blt mg) (C__law_draw : C8.Cal P w K mg base 1 "_law_draw" (toSp K ca aspDraw) []) (R : ∀ n, C8.Cal P w K mg base (n + 3) "_law_any_witness" (toSp K ca (aspLAny n)) []) :
    ∀ n, C8.Cal P w K mg base (n + 4) "_law_less" (toSp K ca (aspLLess n)) []
  | 0 => ⟨⟨f, fd, _, [], fn_vac fun _ _ ⟨_, _, _, c, _⟩ => c.elim, m, k, b, .nil⟩⟩
  | n + 1 => ⟨⟨f, fd, _, [], ok_law_less n F B C__law_draw (R n) (rec_law_less F m k b B C__law_draw R n), m, k, b, .nil⟩⟩
end

abbrev s__law_pool : Stmt := top 30
theorem sc__law_pool : FnScope ["script", "budget"] ["script", "budget"] (defScope s__law_pool) := ⟨rfl, rfl, rfl, by decide +kernel, rfl, by decide +kernel, by decide +kernel⟩
section
variable {P : Program} {w : World} {K : PySem.W.Frag} {mg : Str → Option Value} {base : Heap}
def spPool (K : PySem.W.Frag) : Sp := fun vs H Q _ => ∃ (a : Addr) (ns : List Int) (z : Int), vs = [.ref a, .int z] ∧ SqL K H a (ns.map V.int) ∧
  ∀ p c H', Same H H' → H p = none → PoolAt H' p c → Q (.ref p) H'
theorem ok_law_pool {f : Addr} {fd : FuncData} (F : Fun K "_law_pool" "_law_pool" s__law_pool f fd) (B : Blt mg) : FnOk P w K mg base CX0 1 f fd ["script", "budget"] (spPool K) := by
  refine F.ok sc__law_pool (fun vs H Q E h => ?_) (fun cdv A outer s H vs Q E hr h => ?_)
  · obtain ⟨a, ns, z, rfl, _⟩ := h
    rfl
  · obtain ⟨a, ns, z, rfl, hS, q⟩ := h
    refine ⟨_, (pss_one (ps_ret (pe_lst (pa_cons (pe_callTy (klist (K := K) rfl) (by rfl) B.list bt_list (pa_cons (pv 0) pa_nil)) (pa_cons pe_int (pa_cons pe_int (pa_cons pe_int (pa_cons pe_int (pa_cons (pv 1) pa_nil))))))))), ?_⟩
    walk_at "go"
    intro c hc
    walk_at "go"
    intro p hp
    have s1 := same_new (o := .lst (ns.map V.int)) hc
    refine q p c _ (s1.trans (same_new hp)) (s1.free hp) ⟨ns, 0, 0, 1, 0, z, upd_same, ?_, by omega, by omega, by omega⟩
    rw [upd_ne (ne_of_none upd_same hp), upd_same]
end

/-! ### a law, from its pool on -/
def spLaw (K : PySem.W.Frag) : Sp := fun vs H Q _ => ∃ (a : Addr) (ns : List Int), vs = [.ref a] ∧ SqL K H a (ns.map V.int) ∧ ∀ H', Q (.bl true) H'
theorem law_run {K : PySem.W.Frag} {ca : Nat → Addr} {a p c : Addr} {n : Nat} {H1 : Hp} {Q : VK} {ts : TS} {as : ASt} (hs : ∀ po, AStm ⟨K, ca, po⟩ ts as) (hP : PoolAt H1 p c) (z : ∀ H', Q (.bl true) H')
    (hb : as { nx := fun _ => False, rt := fun d => d = .bl true } (.u :: .d .pool :: List.replicate n .u)) : ts { nx := fun _ H' => Q .non H', rt := Q } (some (.ref a) :: some (.ref p) :: List.replicate n none) H1 := by
  have ok : Okk ⟨K, ca, some (p, c)⟩ (fun _ => False) H1 := ⟨fun _ f => f.elim, fun p' c' e => by
    cases e
    exact ⟨hP, fun f => f, fun f => f⟩⟩
  have rep : ∀ (i : Nat) (s : Sl), (List.replicate n Sl.u)[i]? = some s → s = .u ∧ i < n := fun i s e => by
    obtain ⟨hb, e⟩ := List.getElem?_eq_some_iff.mp e
    rw [List.getElem_replicate] at e
    rw [List.length_replicate] at hb
    exact ⟨e.symm, hb⟩
  have m : Mt ⟨K, ca, some (p, c)⟩ H1 (fun _ => False) H1 (some (.ref a) :: some (.ref p) :: List.replicate n none) (.u :: .d .pool :: List.replicate n .u) := by
    refine ⟨by simp, fun i s e => ?_, fun i j xs ys b e => ?_⟩
    · match i with
      | 0 => cases e; exact ⟨_, rfl, trivial⟩
      | 1 => cases e; exact ⟨_, rfl, _, rfl, .pool rfl⟩
      | i + 2 =>
        obtain ⟨rfl, hi⟩ := rep i s e
        refine ⟨none, ?_, trivial⟩
        show (List.replicate n (none : Option V))[i]? = _
        rw [List.getElem?_eq_getElem (by rw [List.length_replicate]; exact hi), List.getElem_replicate]
    · match i with
      | 0 => cases e
      | 1 => cases e
      | i + 2 =>
        have := (rep i _ e).1
        cases this
  exact (hs (some (p, c))).run _ H1 _ H1 _ { nx := fun _ => False, rt := fun d => d = .bl true } _ _ _ H1 ok ⟨.refl ok, Sub.refl _ _⟩ m
    ⟨fun σ env F' H' b m p => p.elim, fun v d F' H' b r e => by
      subst e
      cases r
      exact z H', fun _ _ _ _ _ _ p => p.elim, fun _ _ _ _ _ _ p => p.elim⟩ hb
theorem law_start {K : PySem.W.Frag} {ca : Nat → Addr} {a : Addr} {ns : List Int} {x y : Str} {N : List Str} {b : Int} {E : XK} {H : Hp} {Q : VK} {ts : TS} {as : ASt} (hS : SqL K H a (ns.map V.int)) (z : ∀ H', Q (.bl true) H') (hs : ∀ po, AStm ⟨K, ca, po⟩ ts as)
    (hb : as { nx := fun _ => False, rt := fun d => d = .bl true } (.u :: .d .pool :: List.replicate N.length .u)) :
    tSeq (tAsg (tCall (spPool K) [] E (tCons (tVar 0) (tCons (tC (.int b)) tNil))) (gName 1)) ts { nx := fun _ H' => Q .non H', rt := Q } (L2.start (x :: y :: N) [.ref a]) H :=
  ⟨_, rfl, a, ns, _, rfl, hS, fun p c H1 s1 n1 hP => law_run hs hP z hb⟩

/-! promises of two depths -/
section
variable {P : Program} {w : World} {K : PySem.W.Frag} {mg : Str → Option Value} {base : Heap} {ca : Nat → Addr}
def aspLCl23 : ASp := fun ds P => ∃ i : Bool, match i with | true => aspLClaim 3 ds P | false => aspLClaim 2 ds P
theorem cal_cl23 {f : Addr} {fd : FuncData} (F : Fun K "_law_claim" "_law_claim" s__law_claim f fd) (mm : mg "_law_claim" = some (.ref f)) (k : PySem.W.keepIn K (.ref f) = true) (b : Binds K fd ["pool", "group", "deep"] []) (B : Blt mg) (C__law_draw : C8.Cal P w K mg base 1 "_law_draw" (toSp K ca aspDraw) []) (C__law_numbers : C8.Cal P w K mg base 2 "_law_numbers" (toSp K ca aspLNumbers) [])
    (C__law_statement : C8.Cal P w K mg base 4 "_law_statement" (toSp K ca aspLStat) []) (C__law_false : C8.Cal P w K mg base 4 "_law_false" (toSp K ca aspLFalse) []) : C8.Cal P w K mg base 8 "_law_claim" (toSp K ca aspLCl23) [] := by
  have R := rec_law_claim F mm k b B C__law_draw C__law_numbers C__law_statement C__law_false
  refine ⟨⟨f, fd, _, [], fn_un fun i => ?_, mm, k, b, .nil⟩⟩
  cases i with
  | true => exact ok_law_claim 2 F B C__law_draw C__law_numbers C__law_statement C__law_false (R 2)
  | false => exact (ok_law_claim 1 F B C__law_draw C__law_numbers C__law_statement C__law_false (R 1)).mono (by decide)
def aspMade23 : ASp := fun ds P => ∃ i : Bool, match i with | true => aspMade 3 ds P | false => aspMade 2 ds P
theorem cal_made23 {f : Addr} {fd : FuncData} (F : Fun K "_law_made" "_law_made" s__law_made f fd) (m : mg "_law_made" = some (.ref f)) (k : PySem.W.keepIn K (.ref f) = true) (b : Binds K fd ["claim"] []) (B : Blt mg) (K_Statement : C8.Mak P w K mg base 2 "Statement" (ca 1) (toSpI K ca 1 aspStI) []) (K_Claim : C8.Mak P w K mg base 1 "Claim" (ca 2) (toSpI K ca 2 aspClI) []) : C8.Cal P w K mg base 6 "_law_made" (toSp K ca aspMade23) [] := by
  have R := rec_law_made F m k b B K_Statement K_Claim
  refine ⟨⟨f, fd, _, [], fn_un fun i => ?_, m, k, b, .nil⟩⟩
  cases i with
  | true => exact ok_law_made 2 F B K_Statement K_Claim (R 2)
  | false => exact (ok_law_made 1 F B K_Statement K_Claim (R 1)).mono (by decide)
end
theorem okE_cl : ∀ (n : Nat) (c : Cl n), ClOk n c → okE (3 * n + 6) (clL n c)
  | 0, c, _ => c.elim
  | n + 1, (s, chs), ⟨so, _, ok⟩ => by
    rw [clL_s, show 3 * (n + 1) + 6 = (3 * n + 6) + 1 + 1 + 1 by omega]
    have h1 : okE 5 (stL s.us s.eqs) := okE_tup (n := 4) (okE_two ((okE_tup (n := 0) (okE_maps fun u hu => okE_str (so.so u hu) 0)).up (Nat.le_of_ble_eq_true rfl)) ((okE_tup (n := 3) (okE_maps (okE_eqD so))).up (Nat.le_of_ble_eq_true rfl)))
    exact okE_tup (okE_two (h1.up (by omega)) (okE_tup (okE_maps fun bs hb => okE_tup (okE_maps fun b hb' => okE_cl n b ((ok bs hb).2.2 b hb')))))
/-- == of two claims -/
theorem eq_cl {n m : Nat} {c : Cl n} {c' : Cl m} {P : Dat → Prop} (h : n ≤ 3) (h1 : ClOk n c) (h2 : ClOk m c') (k : ∀ b : Bool, (b = true ↔ clO n c = clO m c') → P (.bl b)) : kEqO 2 aspClEqs (clO n c) (clO m c') P := by
  refine ⟨?_, ⟨(n, m), h⟩, c, c', rfl, h1, h2, fun b hb => ⟨b, rfl, k b hb⟩⟩
  cases n with
  | zero => exact c.elim
  | succ n =>
    cases m with
    | zero => exact c'.elim
    | succ m => exact ⟨rfl, rfl⟩
abbrev s_law : Stmt := top 56
theorem sc_law : FnScope ["script", "pool", "group", "made", "drawn", "witness", "claim", "tape", "challenge", "first", "replied", "turn", "moved", "number", "answered", "way", "due", "less", "other", "unused", "branches", "row"] ["script"] (defScope s_law) := ⟨rfl, rfl, rfl, by decide +kernel, rfl, by decide +kernel, by decide +kernel⟩
section
variable {P : Program} {w : World} {K : PySem.W.Frag} {mg : Str → Option Value} {base : Heap} {ca : Nat → Addr}
theorem ok_law {f : Addr} {fd : FuncData} (F : Fun K "law" "law" s_law f fd) (B : Blt mg) (T0 : GT K (ca 0)) (T1 : ST K (ca 1)) (T2 : CT K (ca 2)) (E2 : EqM P w K mg base 10 (ca 2) (toSp K ca aspClEqs)) (C__law_pool : C8.Cal P w K mg base 1 "_law_pool" (spPool K) [])
    (C__law_draw : C8.Cal P w K mg base 1 "_law_draw" (toSp K ca aspDraw) []) (C__law_group : C8.Cal P w K mg base 2 "_law_group" (toSp K ca aspLGroup) []) (C__law_numbers : C8.Cal P w K mg base 2 "_law_numbers" (toSp K ca aspLNumbers) [])
    (C__law_claim : C8.Cal P w K mg base 8 "_law_claim" (toSp K ca aspLCl23) []) (C__law_made : C8.Cal P w K mg base 6 "_law_made" (toSp K ca aspMade23) []) (C__law_size : C8.Cal P w K mg base 4 "_law_size" (toSp K ca (aspLSz 3)) []) (C__law_tape : C8.Cal P w K mg base 4 "_law_tape" (toSp K ca (aspLTp 3)) []) (C__law_plays : C8.Cal P w K mg base 9 "_law_plays" (toSp K ca (aspLPlays 3)) [])
    (C__law_same : C8.Cal P w K mg base 14 "_law_same" (toSp K ca (aspSame 14)) []) (C_satisfied : C8.Cal P w K mg base 12 "satisfied" (toSp K ca (aspSat 3)) []) (C_fits : C8.Cal P w K mg base 12 "fits" (toSp K ca (aspFits 3)) [])
    (C__law_fits : C8.Cal P w K mg base 9 "_law_fits" (toSp K ca (aspLFits 3)) []) (C__law_true : C8.Cal P w K mg base 8 "_law_true" (toSp K ca (aspLTru 3)) []) (C__law_spoilt : C8.Cal P w K mg base 22 "_law_spoilt" (toSp K ca aspLSpoilt) []) (C__law_resized : C8.Cal P w K mg base 5 "_law_resized" (toSp K ca (aspLRes 3)) []) (C__law_less : C8.Cal P w K mg base 7 "_law_less" (toSp K ca (aspLLess 3)) [])
    (K_Group : C8.Mak P w K mg base 4 "Group" (ca 0) (toSpI K ca 0 aspGroupI) []) : FnOk P w K mg base CX0 24 f fd ["script"] (spLaw K) := by
  refine F.ok sc_law (fun vs H Q E h => ?_) (fun cdv A outer s H vs Q E hr h => ?_)
  · obtain ⟨a, ns, rfl, _⟩ := h
    rfl
  obtain ⟨a, ns, rfl, hS, z⟩ := h
  refine ⟨_, (pss_cons (ps_set (i := 1) sc_law.nd rfl (.inl rfl) (C8.pe_c C__law_pool hr (by omega) rfl (pa_cons (pv 0) (pa_cons pe_int pa_nil))))
      (pss_cons (ps_set (i := 2) sc_law.nd rfl (.inl rfl) (C8.pe_c C__law_group hr (by omega) rfl (pa_cons (pv 1) (pa_cons (pe_op op_add pe_int (C8.pe_c C__law_draw hr (by omega) rfl (pa_cons (pv 1) (pa_cons pe_int pa_nil)))) (pa_cons pe_int pa_nil)))))
      (pss_cons (ps_set (i := 3) sc_law.nd rfl (.inl rfl) (C8.pe_mk K_Group hr (by omega) rfl (pa_cons (pe_ix (kixs (K := K) rfl) (pv 2) pe_int (fun _ _ => rfl)) (pa_cons (pe_ix (kixs (K := K) rfl) (pv 2) pe_int (fun _ _ => rfl)) (pa_cons (pe_ix (kixs (K := K) rfl) (pv 2) pe_int (fun _ _ => rfl)) pa_nil)))))
      (pss_cons (ps_asg (C8.pe_c C__law_claim hr (by omega) rfl (pa_cons (pv 1) (pa_cons (pv 2) (pa_cons pe_int pa_nil)))) (kgtup (K := K) (n := 2) rfl rfl (pgs_cons (pg_name (i := 4) sc_law.nd rfl (.inl rfl)) (pgs_cons (pg_name (i := 5) sc_law.nd rfl (.inl rfl)) pgs_nil))))
      (pss_cons (ps_set (i := 6) sc_law.nd rfl (.inl rfl) (C8.pe_c C__law_made hr (by omega) rfl (pa_cons (pv 4) pa_nil)))
      (pss_cons (ps_set (i := 7) sc_law.nd rfl (.inl rfl) (C8.pe_c C__law_tape hr (by omega) rfl (pa_cons (pv 4) (pa_cons (C8.pe_c C__law_numbers hr (by omega) rfl (pa_cons (pv 1) (pa_cons (pv 2) (pa_cons (C8.pe_c C__law_size hr (by omega) rfl (pa_cons (pv 4) pa_nil)) pa_nil)))) pa_nil))))
      (pss_cons (ps_set (i := 8) sc_law.nd rfl (.inl rfl) (C8.pe_c C__law_draw hr (by omega) rfl (pa_cons (pv 1) (pa_cons (pe_ix (kixs (K := K) rfl) (pv 2) pe_int (fun _ _ => rfl)) pa_nil))))
      (pss_cons (ps_asg (C8.pe_c C__law_plays hr (by omega) rfl (pa_cons (pv 2) (pa_cons (pv 4) (pa_cons (pv 5) (pa_cons (pv 7) (pa_cons (pv 8) pa_nil)))))) (kgtup (K := K) (n := 2) rfl rfl (pgs_cons (pg_name (i := 9) sc_law.nd rfl (.inl rfl)) (pgs_cons (pg_name (i := 10) sc_law.nd rfl (.inl rfl)) pgs_nil))))
      (pss_cons (ps_for PassesOwn.never rfl (pi_range1 rfl B.range (pa_cons pe_int pa_nil)) (pg_name (i := 11) sc_law.nd rfl (.inl rfl))
      (pss_cons (ps_set (i := 12) sc_law.nd rfl (.inl rfl) (pv 9))
      (pss_cons (ps_set (i := 13) sc_law.nd rfl (.inl rfl) (pv 8))
      (pss_cons (ps_set (i := 14) sc_law.nd rfl (.inl rfl) (pv 10))
      (pss_cons (ps_set (i := 15) sc_law.nd rfl (.inl rfl) (C8.pe_c C__law_draw hr (by omega) rfl (pa_cons (pv 1) (pa_cons pe_int pa_nil))))
      (C8.pss_cut (ps_if (pt_cmpR op_eq (pv 15) pe_int (nomark _)) (pss_one (ps_set (i := 13) sc_law.nd rfl (.inl rfl) (C8.pe_c C__law_draw hr (by omega) rfl (pa_cons (pv 1) (pa_cons (pe_ix (kixs (K := K) rfl) (pv 2) pe_int (fun _ _ => rfl)) pa_nil))))) (pss_one (ps_if (pt_cmpR op_eq (pv 15) pe_int (nomark _)) (pss_one (ps_set (i := 12) sc_law.nd rfl (.inl rfl) (C8.pe_c C__law_spoilt hr (by omega) rfl (pa_cons (pv 1) (pa_cons (pv 2) (pa_cons (pv 9) (pa_cons pe_int pa_nil))))))) (pss_one (ps_if (pt_cmpR op_eq (pv 15) pe_int (nomark _)) (pss_one (ps_set (i := 14) sc_law.nd rfl (.inl rfl) (C8.pe_c C__law_resized hr (by omega) rfl (pa_cons (pv 1) (pa_cons (pv 10) (pa_cons pe_bl pa_nil)))))) (pss_one (ps_if (pt_cmpR op_eq (pv 15) pe_int (nomark _)) (pss_one (ps_set (i := 12) sc_law.nd rfl (.inl rfl) (C8.pe_c C__law_resized hr (by omega) rfl (pa_cons (pv 1) (pa_cons (pv 9) (pa_cons pe_bl pa_nil)))))) (pss_one (ps_set (i := 14) sc_law.nd rfl (.inl rfl) (C8.pe_c C__law_spoilt hr (by omega) rfl (pa_cons (pv 1) (pa_cons (pv 2) (pa_cons (pv 10) (pa_cons pe_int pa_nil))))))))))))))
      (pss_cons (ps_set (i := 16) sc_law.nd rfl (.inl rfl) (C8.pe_c C__law_fits hr (by omega) rfl (pa_cons (pv 2) (pa_cons (pv 4) (pa_cons (pv 12) (pa_cons (pv 13) (pa_cons (pv 14) pa_nil)))))))
      (pss_one (ps_if (pt_not (pt_val (C8.pe_c C__law_same hr (by omega) rfl (pa_cons (C8.pe_c C_fits hr (by omega) rfl (pa_cons (pv 3) (pa_cons (pv 6) (pa_cons (pv 12) (pa_cons (pv 13) (pa_cons (pv 14) pa_nil)))))) (pa_cons (pv 16) pa_nil))))) (pss_one (ps_ret pe_bl)) pss_nil)))))))))
      (pss_cons (ps_set (i := 17) sc_law.nd rfl (.inl rfl) (C8.pe_c C__law_less hr (by omega) rfl (pa_cons (pv 1) (pa_cons (pv 2) (pa_cons (pv 4) (pa_cons (pv 5) pa_nil))))))
      (pss_cons (ps_if (pt_not (pt_val (C8.pe_c C__law_same hr (by omega) rfl (pa_cons (C8.pe_c C_satisfied hr (by omega) rfl (pa_cons (pv 3) (pa_cons (pv 6) (pa_cons (pv 17) pa_nil)))) (pa_cons (C8.pe_c C__law_true hr (by omega) rfl (pa_cons (pv 2) (pa_cons (pv 4) (pa_cons (pv 17) pa_nil)))) pa_nil))))) (pss_one (ps_ret pe_bl)) pss_nil)
      (pss_cons (ps_asg (C8.pe_c C__law_claim hr (by omega) rfl (pa_cons (pv 1) (pa_cons (pv 2) (pa_cons pe_int pa_nil)))) (kgtup (K := K) (n := 2) rfl rfl (pgs_cons (pg_name (i := 18) sc_law.nd rfl (.inl rfl)) (pgs_cons (pg_name (i := 19) sc_law.nd rfl (.inl rfl)) pgs_nil))))
      (pss_cons (ps_if (PW.pt (pw_or (pt_not (pt_val (C8.pe_c C__law_same hr (by omega) rfl (pa_cons (pe_cmpR (op_eqM E2 hr (by omega)) (C8.pe_c C__law_made hr (by omega) rfl (pa_cons (pv 18) pa_nil)) (pv 6) (nomark _)) (pa_cons (pe_cmpR (keqd (K := K) rfl hr.units) (pv 18) (pv 4) (nomark _)) pa_nil))))) (pw_or1 (pt_not (pt_val (C8.pe_c C__law_same hr (by omega) rfl (pa_cons (pe_cmpR (op_eqM E2 hr (by omega)) (pv 6) (C8.pe_c C__law_made hr (by omega) rfl (pa_cons (pv 4) pa_nil)) (nomark _)) (pa_cons pe_bl pa_nil)))))))) (pss_one (ps_ret pe_bl)) pss_nil)
      (pss_cons (ps_if (PW.pt (pw_or (pt_not (pt_val (pe_callB (kisi (K := K) rfl) (by rfl) B.isinstance bt_isinstance (pa_cons (kfld (K := K) rfl (pv 6)) (pa_cons (pe_bltn (v := .ty "tuple") (u := .type "tuple") (by rfl) B.tuple bt_tuple rfl) pa_nil))))) (pw_or1 (pt_cmpR (kin (K := K) rfl) pe_bl (pe_lc (own := [("branches", 20)]) (g := gName 20) (tt := tYes) rfl sc_law.nd (kpit (K := K) rfl (kfld (K := K) rfl (pv 6))) (blkOk_by (N := ["script", "pool", "group", "made", "drawn", "witness", "claim", "tape", "challenge", "first", "replied", "turn", "moved", "number", "answered", "way", "due", "less", "other", "unused", "branches", "row"]) (sc := defScope s_law) (by decide +kernel))
        (fun _ _ _ _ _ => (pg_name (i := 20) sc_law.nd rfl (.inl rfl))) (fun _ _ _ _ _ => pts_nil)
        (fun _ _ _ _ _ => (pe_callB (kisi (K := K) rfl) (by rfl) B.isinstance bt_isinstance (pa_cons (pv 20) (pa_cons (pe_bltn (v := .ty "tuple") (u := .type "tuple") (by rfl) B.tuple bt_tuple rfl) pa_nil))))) rfl)))) (pss_one (ps_ret pe_bl)) pss_nil)
      (pss_one (ps_ret (C8.pe_c C__law_same hr (by omega) rfl (pa_cons (pe_lst (pa_cons (kfld (K := K) rfl (kfld (K := K) rfl (pv 6))) (pa_cons (pe_lc (own := [("row", 21)]) (g := gName 21) (tt := tYes) rfl sc_law.nd (kpit (K := K) rfl (kfld (K := K) rfl (pv 6))) (blkOk_by (N := ["script", "pool", "group", "made", "drawn", "witness", "claim", "tape", "challenge", "first", "replied", "turn", "moved", "number", "answered", "way", "due", "less", "other", "unused", "branches", "row"]) (sc := defScope s_law) (by decide +kernel))
        (fun _ _ _ _ _ => (pg_name (i := 21) sc_law.nd rfl (.inl rfl))) (fun _ _ _ _ _ => pts_nil)
        (fun _ _ _ _ _ => (pe_callB (klen (K := K) rfl) (by rfl) B.len bt_len (pa_cons (pv 21) pa_nil)))) pa_nil))) (pa_cons (pe_lst (pa_cons (pe_ix (kixs (K := K) rfl) (pe_ix (kixs (K := K) rfl) (pv 4) pe_int (fun _ _ => rfl)) pe_int (fun _ _ => rfl)) (pa_cons (pe_lc (own := [("row", 21)]) (g := gName 21) (tt := tYes) rfl sc_law.nd (kpit (K := K) rfl (pe_ix (kixs (K := K) rfl) (pv 4) pe_int (fun _ _ => rfl))) (blkOk_by (N := ["script", "pool", "group", "made", "drawn", "witness", "claim", "tape", "challenge", "first", "replied", "turn", "moved", "number", "answered", "way", "due", "less", "other", "unused", "branches", "row"]) (sc := defScope s_law) (by decide +kernel))
        (fun _ _ _ _ _ => (pg_name (i := 21) sc_law.nd rfl (.inl rfl))) (fun _ _ _ _ _ => pts_nil)
        (fun _ _ _ _ _ => (pe_callB (klen (K := K) rfl) (by rfl) B.len bt_len (pa_cons (pv 21) pa_nil)))) pa_nil))) pa_nil))))))))))))))))))), ?_⟩
  refine law_start (ca := ca) hS z (fun po => (s_seq (s_set fun _ => (a_call (a_cons a_var (a_cons (a_op pst_rv rok_I0 a_int (a_call (a_cons a_var (a_cons a_int a_nil)))) (a_cons a_int a_nil)))))
      (s_seq (s_set fun _ => (a_make (a_cons (a_op pst_pk rok_ix (a_pk a_var) a_int) (a_cons (a_op pst_pk rok_ix (a_pk a_var) a_int) (a_cons (a_op pst_pk rok_ix (a_pk a_var) a_int) a_nil)))))
      (s_seq (s_asg (vs := [4, 5]) (fun _ => (a_call (a_cons a_var (a_cons a_var (a_cons a_int a_nil))))) (fun _ => (g_tup (g_cons (g_name (by decide)) (g_cons (g_name (by decide)) g_nil tot_name) tot_name))))
      (s_seq (s_set fun _ => (a_call (a_cons a_var a_nil)))
      (s_seq (s_set fun _ => (a_call (a_cons a_var (a_cons (a_call (a_cons a_var (a_cons a_var (a_cons (a_call (a_cons a_var a_nil)) a_nil)))) a_nil))))
      (s_seq (s_set fun _ => (a_call (a_cons a_var (a_cons (a_op pst_pk rok_ix (a_pk a_var) a_int) a_nil))))
      (s_seq (s_asg (vs := [9, 10]) (fun _ => (a_call (a_cons a_var (a_cons a_var (a_cons a_var (a_cons a_var (a_cons a_var a_nil))))))) (fun _ => (g_tup (g_cons (g_name (by decide)) (g_cons (g_name (by decide)) g_nil tot_name) tot_name))))
      (s_seq (s_for (vs := [11]) (fun _ => (i_ran1 (a_cons a_int a_nil))) (fun _ => (g_name (by decide)))
      (s_seq (s_set fun _ => a_var)
      (s_seq (s_set fun _ => a_var)
      (s_seq (s_set fun _ => a_var)
      (s_seq (s_set fun _ => (a_call (a_cons a_var (a_cons a_int a_nil))))
      (s_cut (s_if (fun _ => (a_test (a_op pst_rv rok_eq a_var a_int))) (s_set fun _ => (a_call (a_cons a_var (a_cons (a_op pst_pk rok_ix (a_pk a_var) a_int) a_nil)))) (s_if (fun _ => (a_test (a_op pst_rv rok_eq a_var a_int))) (s_set fun _ => (a_call (a_cons a_var (a_cons a_var (a_cons a_var (a_cons a_int a_nil)))))) (s_if (fun _ => (a_test (a_op pst_rv rok_eq a_var a_int))) (s_set fun _ => (a_call (a_cons a_var (a_cons a_var (a_cons a_bl a_nil))))) (s_if (fun _ => (a_test (a_op pst_rv rok_eq a_var a_int))) (s_set fun _ => (a_call (a_cons a_var (a_cons a_var (a_cons a_bl a_nil))))) (s_set fun _ => (a_call (a_cons a_var (a_cons a_var (a_cons a_var (a_cons a_int a_nil))))))))))
      (s_seq (s_set fun _ => (a_call (a_cons a_var (a_cons a_var (a_cons a_var (a_cons a_var (a_cons a_var a_nil)))))))
      (s_if (fun _ => (a_not (a_tb (a_call (a_cons (a_call (a_cons a_var (a_cons a_var (a_cons a_var (a_cons a_var (a_cons a_var a_nil)))))) (a_cons a_var a_nil)))))) (s_ret fun _ => a_bl) s_next))))))))
      (s_seq (s_set fun _ => (a_call (a_cons a_var (a_cons a_var (a_cons a_var (a_cons a_var a_nil))))))
      (s_seq (s_if (fun _ => (a_not (a_tb (a_call (a_cons (a_call (a_cons a_var (a_cons a_var (a_cons a_var a_nil)))) (a_cons (a_call (a_cons a_var (a_cons a_var (a_cons a_var a_nil)))) a_nil)))))) (s_ret fun _ => a_bl) s_next)
      (s_seq (s_asg (vs := [18, 19]) (fun _ => (a_call (a_cons a_var (a_cons a_var (a_cons a_int a_nil))))) (fun _ => (g_tup (g_cons (g_name (by decide)) (g_cons (g_name (by decide)) g_nil tot_name) tot_name))))
      (s_seq (s_if (fun _ => (a_or (a_not (a_tb (a_call (a_cons (a_op pst_rv rok_eqO (a_call (a_cons a_var a_nil)) a_var) (a_cons (a_op pst_pk rok_eqD (a_pk a_var) (a_pk a_var)) a_nil))))) (a_not (a_tb (a_call (a_cons (a_op pst_rv rok_eqO a_var (a_call (a_cons a_var a_nil))) (a_cons a_bl a_nil))))))) (s_ret fun _ => a_bl) s_next)
      (s_seq (s_if (fun _ => (a_or (a_not (a_tb (a_isT (by decide) (a_fld T2.cl T2.n_choices (c := 2) (i := 1) rfl a_var)))) (a_test (a_op pst_rv rok_inB a_bl (a_pk (a_fz (a_lc (vs := [20]) (i_tup (a_fld T2.cl T2.n_choices (c := 2) (i := 1) rfl a_var)) (g_name (by decide)) a_yes (a_isT (by decide) a_var)))))))) (s_ret fun _ => a_bl) s_next)
      (s_ret fun _ => (a_call (a_cons (a_fz (a_lst (a_cons (a_fld T1.cl T1.n_unknowns (c := 1) (i := 0) rfl (a_fld T2.cl T2.n_statement (c := 2) (i := 0) rfl a_var)) (a_cons (a_fz (a_lc (vs := [21]) (i_tup (a_fld T2.cl T2.n_choices (c := 2) (i := 1) rfl a_var)) (g_name (by decide)) a_yes (a_b1 u_len (a_pk a_var)))) a_nil)))) (a_cons (a_fz (a_lst (a_cons (a_op pst_pk rok_ix (a_pk (a_op pst_pk rok_ix (a_pk a_var) a_int)) a_int) (a_cons (a_fz (a_lc (vs := [21]) (i_tup (a_op pst_pk rok_ix (a_pk a_var) a_int)) (g_name (by decide)) a_yes (a_b1 u_len (a_pk a_var)))) a_nil)))) a_nil)))))))))))))))))) ?_
  refine seqG fun N hN => ?_
  walk_at "dd"
  refine draw (by omega) (by omega) fun v1 v0 v2 => ?_
  walk_at "dd"
  have fl : 0 < (tab.filter (okRow (2 + v1) 5)).length := by
    have : v1 = 0 ∨ v1 = 1 ∨ v1 = 2 := by omega
    rcases this with rfl | rfl | rfl <;> decide
  refine ⟨2 + v1, 5, rfl, by omega, by omega, fl, fun p q bs gg => ?_⟩
  have ok := gg.okk
  have gb := gg.gb
  have p3 := gb.p3
  have pm := gb.pm
  have q3 := gb.q3
  have qm := gb.qm
  subst hN
  dsimp only
  unfold lgD
  refine seqG fun N hN => ?_
  walk_at "dd"
  refine ⟨p, q, bs, rfl, ok, ?_⟩
  subst hN
  refine seqG fun N hN => ?_
  walk_at "dd"
  refine ⟨true, p, q, bs, rfl, gb, by decide, by decide, fun c wt lc => ?_⟩
  walk_at "dd"
  subst hN
  refine seqG fun N hN => ?_
  walk_at "dd"
  refine ⟨true, c, rfl, lc.ok, ?_⟩
  subst hN
  refine seqG fun N hN => ?_
  walk_at "dd"
  refine ⟨c, rfl, lc.ok, ?_⟩
  have szb : szC 3 c ≤ 301 := lc.sz
  refine ⟨p, q, _, bs, rfl, by omega, by omega, by omega, by omega, fun ns ln hv => ?_⟩
  have ln : ns.length = szC 3 c := by omega
  walk_at "dd"
  refine ⟨c, ns, rfl, lc.ok, ?_⟩
  obtain ⟨tf, tr⟩ := tp_fit (q := q) c ns lc.ok (by omega) hv
  generalize hT : tpC 3 c ns = t at tf tr ⊢
  subst hN
  refine seqG fun N hN => ?_
  walk_at "dd"
  refine draw (by omega) (by omega) fun x x0 x1 => ?_
  subst hN
  refine seqG fun N hN => ?_
  walk_at "dd"
  have wf := fit_of_sat lc.sat
  have fp := fits_pl (q := q) (by omega) (show 1 < p by omega) c (some wt) t x lc.ok lc.sat tf tr x0 x1
  refine ⟨p, q, x, bs, c, some wt, t, rfl, ⟨by omega, by omega, by omega, by omega⟩, lc.ok, wf, lc.rng, tf, ?_⟩
  walk_at "dd"
  subst hN
  have fp : FitsC p q 3 c (plyC p q 3 c wt t x).1 x (plyC p q 3 c wt t x).2 ∧ MvB 3 (plyC p q 3 c wt t x).1 ∧ RyB 3 (plyC p q 3 c wt t x).2 := fp
  rw [show plO p q 3 c (some wt) t x = plyC p q 3 c wt t x from rfl]
  generalize hA : plyC p q 3 c wt t x = A at fp ⊢
  obtain ⟨m, r⟩ := A
  obtain ⟨fm, fr⟩ := fits_dim lc.ok lc.dim fp.1
  dsimp only at fm fr ⊢
  refine seqG fun N hN => ?_
  walk_at "dd"
  refine ⟨by omega, by omega, ?_⟩
  have gd : ∀ {d : Dat} {way : Int} {P : Dat → Prop}, trT 20 d → (plcs d).length ≤ 100000 → P d → (∀ (r : List Nat) (i j : Int), atP d r = some (.int i) → P (putP d r (.int j))) → aspLSpoilt [.pool, .tup [.int p, .int q, .lst (bs.map .int)], d, .int way] P := fun {d way P} h1 h2 h3 h4 => by
    obtain ⟨b0, bs', rfl⟩ : ∃ b0 bs', bs = b0 :: bs' := by
      cases bs with
      | nil => exact absurd gb.l1 (by decide)
      | cons b0 bs' => exact ⟨b0, bs', rfl⟩
    exact ⟨p, q, b0, way, bs', d, rfl, ⟨by omega, by omega, by omega, by omega⟩, h1, h2, h3, fun r i j _ h => h4 r i j h⟩
  have cM : cntM 3 ≤ 100000 := by decide
  have cR : cntR 3 ≤ 100000 := by decide
  refine forA_ran (n := 3) (fun k env => ∃ y11 y12 y13 y14 y15 y16 : Sl, env = [.u, .d .pool, .d (.tup [.int p, .int q, .lst (bs.map .int)]), .d (.obj 0 [.int p, .int q, .tup (bs.map .int)]), .d (clL 3 c), .d (wtD 3 wt), .d (clO 3 c), .d (tpD 3 t), .d (.int x), .d (mvD 3 m), .d (ryD 3 r), y11, y12, y13, y14, y15, y16, .u, .u, .u, .u, .u]) ⟨_, _, _, _, _, _, rfl⟩ ?_ ?_
  · rintro k env hk ⟨y11, y12, y13, y14, y15, y16, rfl⟩ M hM
    refine seqG fun N2 hN2 => ?_
    walk_at "dd"
    subst hN2
    refine seqG fun N2 hN2 => ?_
    walk_at "dd"
    subst hN2
    refine seqG fun N2 hN2 => ?_
    walk_at "dd"
    subst hN2
    refine seqG fun N2 hN2 => ?_
    walk_at "dd"
    refine draw (by omega) (by omega) fun v v0 v1 => ?_
    subst hN2
    refine ⟨fun env => ∃ (m' : Mv 3) (x' : Int) (r' : Ry 3), env = [.u, .d .pool, .d (.tup [.int p, .int q, .lst (bs.map .int)]), .d (.obj 0 [.int p, .int q, .tup (bs.map .int)]), .d (clL 3 c), .d (wtD 3 wt), .d (clO 3 c), .d (tpD 3 t), .d (.int x), .d (mvD 3 m), .d (ryD 3 r), .d (.int (0 + (k : Int))), .d (mvD 3 m'), .d (.int x'), .d (ryD 3 r'), .d (.int v), y16, .u, .u, .u, .u, .u] ∧ MvB 3 m' ∧ RyB 3 r' ∧ 0 ≤ x' ∧ x' < q, ?_, ?_⟩
    · walk_at "dd"
      refine twoD (fun _ => ?_) (fun _ => twoD (fun _ => ?_) (fun _ => twoD (fun _ => ?_) (fun _ => twoD (fun _ => ?_) (fun _ => ?_))))
      · refine draw (by omega) (by omega) fun x' a0 a1 => ⟨m, x', r, rfl, fm.b, fr.b, a0, a1⟩
      · refine gd (trT_mv 3 m 10 fm) (Nat.le_trans (plcs_mv 3 m fm) cM) ⟨m, x, r, rfl, fm.b, fr.b, x0, x1⟩ fun pa i j h => ?_
        obtain ⟨m', e, b⟩ := mv_put (j := j) fm.b h
        rw [e]
        exact ⟨m', x, r, rfl, b, fr.b, x0, x1⟩
      · exact ⟨_, true, rfl, .inr ⟨rfl, r, rfl, fr, fun r' hr' => ⟨m, x, r', rfl, fm.b, hr', x0, x1⟩⟩⟩
      · exact ⟨_, false, rfl, .inl ⟨rfl, m, rfl, fm, fun m' hm' => ⟨m', x, r, rfl, hm', fr.b, x0, x1⟩⟩⟩
      · refine gd (trT_ry 3 r 7 fr) (Nat.le_trans (plcs_ry 3 r fr) cR) ⟨m, x, r, rfl, fm.b, fr.b, x0, x1⟩ fun pa i j h => ?_
        obtain ⟨r', e, b⟩ := ry_put (j := j) fr.b h
        rw [e]
        exact ⟨m, x, r', rfl, fm.b, b, x0, x1⟩
    · rintro env ⟨m', x', r', rfl, mb, rb, z0, z1⟩
      refine seqG fun N2 hN2 => ?_
      walk_at "dd"
      refine ⟨p, q, x', bs, c, m', r', rfl, ⟨by omega, by omega, by omega, by omega⟩, lc.ok, mb, rb, ⟨z0, z1⟩, fun y hy => ?_⟩
      subst hN2
      walk_at "dd"
      refine ⟨p, q, x', bs, c, m', r', rfl, ⟨by omega, by omega, by omega⟩, lc.ok, mb, rb, fun y' hy' => ?_⟩
      have ey : y' = y := bl_iff hy' hy
      subst ey
      refine same_ok rfl (okS_bl _ _) rfl ?_
      exact hM _ ⟨_, _, _, _, _, _, rfl⟩
  · rintro env ⟨y11, y12, y13, y14, y15, y16, rfl⟩
    subst hN
    try dsimp only
    refine seqG fun N hN => ?_
    walk_at "dd"
    refine ⟨p, q, bs, c, wt, rfl, ⟨by omega, by omega, by omega, by omega⟩, lc.ok, wf, fun wl hw => ?_⟩
    subst hN
    refine seqG fun N hN => ?_
    walk_at "dd"
    refine ⟨p, q, bs, c, wl, rfl, ⟨by omega, by omega, by omega⟩, lc.ok, fun y hy => ?_⟩
    refine ⟨p, q, bs, c, wl, rfl, ⟨by omega, by omega, by omega, by omega⟩, lc.ok, hw, fun y' hy' => ?_⟩
    have ey : y' = y := bl_iff hy' hy
    subst ey
    refine same_ok rfl (okS_bl _ _) rfl ?_
    subst hN
    refine seqG fun N hN => ?_
    walk_at "dd"
    refine ⟨false, p, q, bs, rfl, gb, by decide, by decide, fun c2 w2 lc2 => ?_⟩
    walk_at "dd"
    subst hN
    refine seqG fun N hN => ?_
    walk_at "dd"
    refine ⟨false, c2, rfl, lc2.ok, ?_⟩
    refine eq_cl (by decide) lc2.ok lc.ok fun y hy => ?_
    refine ⟨(okE_cl 2 c2 lc2.ok).up (by decide), (okE_cl 3 c lc.ok).up (by decide), fun y' hy' => ?_⟩
    have ey : y = y' := bl_iff hy (hy'.trans (clO_iff 2 3 c2 c).symm)
    subst ey
    refine same_ok rfl (okS_bl _ _) rfl ?_
    refine ⟨true, c, rfl, lc.ok, ?_⟩
    refine eq_cl (by decide) lc.ok lc.ok fun y hy => ?_
    have ey : y = true := hy.mpr rfl
    subst ey
    refine same_ok rfl (okS_bl _ _) rfl ?_
    obtain ⟨s, chs⟩ := c
    obtain ⟨so, hl, okc⟩ := lc.ok
    rw [clO_s, clL_s]
    subst hN
    refine seqG fun N hN => ?_
    unfold tupM stO stL
    walk_at "dd"
    refine ⟨by rw [List.length_map]; omega, ?_⟩
    refine lcA_mapL (g := fun _ => Dat.bl true) (fun x hx Q hQ => ?_) ?_
    · walk_at "dd"
      exact hQ
    refine ⟨false, chs.map fun _ => true, rfl, by rw [List.map_map]; rfl, ?_⟩
    rw [show (chs.map fun _ => true).contains false = false from Bool.eq_false_iff.mpr fun z => by
      rw [List.contains_iff_mem] at z
      obtain ⟨_, _, z⟩ := List.mem_map.mp z
      cases z]
    walk_at "dd"
    subst hN
    walk_at "dd"
    refine ⟨by rw [List.length_map]; omega, ?_⟩
    refine lcA_mapL (g := fun bs : List (Cl 2) => Dat.int (bs.length : Int)) (fun x hx Q hQ => ?_) ?_
    · walk_at "dd"
      rw [List.length_map]
      exact hQ
    refine ⟨by rw [List.length_map]; omega, ?_⟩
    refine lcA_mapL (g := fun bs : List (Cl 2) => Dat.int (bs.length : Int)) (fun x hx Q hQ => ?_) ?_
    · walk_at "dd"
      rw [List.length_map]
      exact hQ
    have lu := so.lu
    have pl : plD (.lst [.tup (s.us.map .str), .lst (chs.map fun bs : List (Cl 2) => Dat.int (bs.length : Int))]) = true := plD_two (pl_strs _) (plAll_map fun _ _ => rfl)
    exact same_end pl (okS_lst (Nat.le_of_ble_eq_true rfl) (okS_two (okS_strs 11 (by omega)) (okS_lst (n := 11) (by rw [List.length_map]; omega) (okS_map fun _ _ => okS_int _ _)))) rfl rfl
end

theorem cal_weak {P : Program} {w : World} {K : PySem.W.Frag} {mg : Str → Option Value} {base : Heap} {k : Nat} {x : Str} {sp sp' : Sp} {dvs : List V} (h : ∀ vs H Q E, sp' vs H Q E → sp vs H Q E) (C : C8.Cal P w K mg base k x sp dvs) : C8.Cal P w K mg base k x sp' dvs := by
  obtain ⟨f, fd, ps, ds, F, a, b, c, d⟩ := C.ex
  exact ⟨⟨f, fd, ps, ds, fn_weak h F, a, b, c, d⟩⟩
/-- the classes by their numbers -/
def caOf (C0 C1 C2 : Addr) : Nat → Addr
  | 0 => C0
  | 1 => C1
  | 2 => C2
  | _ => C0

/-! ### the end -/
set_option maxHeartbeats 0 in
theorem all_mk {l : PySem.W.OpenLaw} {w : World} {K : PySem.W.Frag} {h : Heap} {mg : Str → Option Value} {fa f0 f1 f2 f3 f4 f5 f6 f7 f8 f9 f10 f11 f12 f13 f14 f15 f16 f17 f18 f19 f20 f21 f22 f23 f24 f25 f26 f27 f28 f29 f30 f31 f32 f33 f34 f35 f36 f37 f38 f39 f40 f41 f42 f43 f44 f45 f46 f47 : Addr} {C0 C1 C2 : Addr} {tS tL tF tM : Tok} (X : K.In h) (G : h.Ns mainGlobals mg) (hfa : mg "law" = some (.ref fa))
    {od0 an0 od1 an1 od2 an2 od3 an3 od4 an4 od5 an5 od6 an6 od7 an7 od8 an8 od9 an9 od10 an10 od11 an11 od12 an12 od13 an13 od14 an14 od15 an15 od16 an16 od17 an17 od18 an18 od19 an19 od20 an20 od21 an21 od22 an22 od23 an23 od24 an24 od25 an25 od26 an26 od27 an27 od28 an28 od29 an29 od30 an30 od31 an31 od32 an32 od33 an33 od34 an34 od35 an35 od36 an36 od37 an37 od38 an38 od39 an39 od40 an40 od41 an41 od42 an42 od43 an43 od44 an44 od45 an45 od46 an46 od47 an47 : Option Addr} {sl0 sl1 sl2 sl3 sl4 sl5 sl6 sl7 sl8 sl9 sl10 sl11 sl12 sl13 sl14 sl15 sl16 sl17 sl18 sl19 sl20 sl21 sl22 sl23 sl24 sl25 sl26 sl27 sl28 sl29 sl30 sl31 sl32 sl33 sl34 sl35 sl36 sl37 sl38 sl39 sl40 sl41 sl42 sl43 sl44 sl45 sl46 sl47 : Array (Option Value)} {oc0 kV0 dc0 pm0 cd0 ct0 oc1 kV1 dc1 pm1 cd1 ct1 oc2 kV2 dc2 pm2 cd2 ct2 oc3 kV3 dc3 pm3 cd3 ct3 oc4 kV4 dc4 pm4 cd4 ct4 oc5 kV5 dc5 pm5 cd5 ct5 oc6 kV6 dc6 pm6 cd6 ct6 oc7 kV7 dc7 pm7 cd7 ct7 oc8 kV8 dc8 pm8 cd8 ct8 oc9 kV9 dc9 pm9 cd9 ct9 oc10 kV10 dc10 pm10 cd10 ct10 oc11 kV11 dc11 pm11 cd11 ct11 oc12 kV12 dc12 pm12 cd12 ct12 oc13 kV13 dc13 pm13 cd13 ct13 oc14 kV14 dc14 pm14 cd14 ct14 oc15 kV15 dc15 pm15 cd15 ct15 oc16 kV16 dc16 pm16 cd16 ct16 oc17 kV17 dc17 pm17 cd17 ct17 oc18 kV18 dc18 pm18 cd18 ct18 oc19 kV19 dc19 pm19 cd19 ct19 oc20 kV20 dc20 pm20 cd20 ct20 oc21 kV21 dc21 pm21 cd21 ct21 oc22 kV22 dc22 pm22 cd22 ct22 oc23 kV23 dc23 pm23 cd23 ct23 oc24 kV24 dc24 pm24 cd24 ct24 oc25 kV25 dc25 pm25 cd25 ct25 oc26 kV26 dc26 pm26 cd26 ct26 oc27 kV27 dc27 pm27 cd27 ct27 oc28 kV28 dc28 pm28 cd28 ct28 oc29 kV29 dc29 pm29 cd29 ct29 oc30 kV30 dc30 pm30 cd30 ct30 oc31 kV31 dc31 pm31 cd31 ct31 oc32 kV32 dc32 pm32 cd32 ct32 oc33 kV33 dc33 pm33 cd33 ct33 oc34 kV34 dc34 pm34 cd34 ct34 oc35 kV35 dc35 pm35 cd35 ct35 oc36 kV36 dc36 pm36 cd36 ct36 oc37 kV37 dc37 pm37 cd37 ct37 oc38 kV38 dc38 pm38 cd38 ct38 oc39 kV39 dc39 pm39 cd39 ct39 oc40 kV40 dc40 pm40 cd40 ct40 oc41 kV41 dc41 pm41 cd41 ct41 oc42 kV42 dc42 pm42 cd42 ct42 oc43 kV43 dc43 pm43 cd43 ct43 oc44 kV44 dc44 pm44 cd44 ct44 oc45 kV45 dc45 pm45 cd45 ct45 oc46 kV46 dc46 pm46 cd46 ct46 oc47 kV47 dc47 pm47 cd47 ct47 : Value}
    (a_C0 : PySem.W.nsIn K mainGlobals "Group" = some (some (.ref C0)))
    (pg_C0 : PySem.W.plainGet K C0 Str.empty = true)
    (hd_C0 : PySem.W.hasDictIn K C0 = true)
    (po_C0 : PySem.W.plainOver K C0 = true)
    (sa_C0 : PySem.W.findIn K (.ref C0) "__setattr__" = some (some (.builtin "object.__setattr__")))
    (mk_C0 : PySem.W.makesIn K C0 = true)
    (kc_C0 : PySem.W.keepIn K (.ref C0) = true)
    (nP : PySem.W.findIn K (.ref C0) "p" = some none)
    (nQ : PySem.W.findIn K (.ref C0) "q" = some none)
    (nB : PySem.W.findIn K (.ref C0) "bases" = some none)
    (gS : PySem.W.nsIn K mainGlobals "SMALLEST_P" = some (some (.int 3 tS)))
    (gL : PySem.W.nsIn K mainGlobals "LARGEST_P" = some (some (.int 1000000 tL)))
    (gF : PySem.W.nsIn K mainGlobals "FEWEST_BASES" = some (some (.int 2 tF)))
    (gM : PySem.W.nsIn K mainGlobals "MOST_BASES" = some (some (.int 12 tM)))
    (a_C1 : PySem.W.nsIn K mainGlobals "Statement" = some (some (.ref C1)))
    (pg_C1 : PySem.W.plainGet K C1 Str.empty = true)
    (hd_C1 : PySem.W.hasDictIn K C1 = true)
    (po_C1 : PySem.W.plainOver K C1 = true)
    (sa_C1 : PySem.W.findIn K (.ref C1) "__setattr__" = some (some (.builtin "object.__setattr__")))
    (mk_C1 : PySem.W.makesIn K C1 = true)
    (kc_C1 : PySem.W.keepIn K (.ref C1) = true)
    (nU : PySem.W.findIn K (.ref C1) "unknowns" = some none)
    (nE : PySem.W.findIn K (.ref C1) "equations" = some none)
    (a_C2 : PySem.W.nsIn K mainGlobals "Claim" = some (some (.ref C2)))
    (pg_C2 : PySem.W.plainGet K C2 Str.empty = true)
    (hd_C2 : PySem.W.hasDictIn K C2 = true)
    (po_C2 : PySem.W.plainOver K C2 = true)
    (sa_C2 : PySem.W.findIn K (.ref C2) "__setattr__" = some (some (.builtin "object.__setattr__")))
    (mk_C2 : PySem.W.makesIn K C2 = true)
    (kc_C2 : PySem.W.keepIn K (.ref C2) = true)
    (nSt : PySem.W.findIn K (.ref C2) "statement" = some none)
    (nCh : PySem.W.findIn K (.ref C2) "choices" = some none)
    (ha1 : PySem.W.findIn K (.ref C1) "__class__" = some (some (.builtin "object.__class__")))
    (hn1 : PySem.W.specialIn K (.builtin "object.__class__") "__get__" = some (some (.builtin "getset_descriptor.__get__")))
    (ht1 : PySem.W.takesIn K (.builtin "object.__class__") = some true)
    (hm1 : PySem.W.mroIn K C1 (.type "object") = some true)
    (ha2 : PySem.W.findIn K (.ref C2) "__class__" = some (some (.builtin "object.__class__")))
    (hm2 : PySem.W.mroIn K C2 (.type "object") = some true)
    (a0 : PySem.W.nsIn K mainGlobals "power" = some (some (.ref f0)))
    (l0 : K.lookup f0 = some ⟨oc0, od0, .func (PySem.W.fnOf "power" "power" (defArgs s_power) (defBody s_power) (defScope s_power) .none kV0 dc0 pm0 an0 cd0 ct0), sl0⟩) (c0 : PySem.W.codeIn K cd0 "power" = true) (k0 : PySem.W.keepIn K (.ref f0) = true)
    (a1 : PySem.W.nsIn K mainGlobals "is_prime" = some (some (.ref f1)))
    (l1 : K.lookup f1 = some ⟨oc1, od1, .func (PySem.W.fnOf "is_prime" "is_prime" (defArgs s_is_prime) (defBody s_is_prime) (defScope s_is_prime) .none kV1 dc1 pm1 an1 cd1 ct1), sl1⟩) (c1 : PySem.W.codeIn K cd1 "is_prime" = true) (k1 : PySem.W.keepIn K (.ref f1) = true)
    (a2 : PySem.W.nsIn K mainGlobals "_is_root" = some (some (.ref f2)))
    (l2 : K.lookup f2 = some ⟨oc2, od2, .func (PySem.W.fnOf "_is_root" "_is_root" (defArgs s__is_root) (defBody s__is_root) (defScope s__is_root) .none kV2 dc2 pm2 an2 cd2 ct2), sl2⟩) (c2 : PySem.W.codeIn K cd2 "_is_root" = true) (k2 : PySem.W.keepIn K (.ref f2) = true)
    (a3 : PySem.W.nsIn K mainGlobals "_check_primes" = some (some (.ref f3)))
    (l3 : K.lookup f3 = some ⟨oc3, od3, .func (PySem.W.fnOf "_check_primes" "_check_primes" (defArgs s__check_primes) (defBody s__check_primes) (defScope s__check_primes) .none kV3 dc3 pm3 an3 cd3 ct3), sl3⟩) (c3 : PySem.W.codeIn K cd3 "_check_primes" = true) (k3 : PySem.W.keepIn K (.ref f3) = true)
    (a4 : PySem.W.nsIn K mainGlobals "_check_bases" = some (some (.ref f4)))
    (l4 : K.lookup f4 = some ⟨oc4, od4, .func (PySem.W.fnOf "_check_bases" "_check_bases" (defArgs s__check_bases) (defBody s__check_bases) (defScope s__check_bases) .none kV4 dc4 pm4 an4 cd4 ct4), sl4⟩) (c4 : PySem.W.codeIn K cd4 "_check_bases" = true) (k4 : PySem.W.keepIn K (.ref f4) = true)
    (a5 : PySem.W.findIn K (.ref C0) "__init__" = some (some (.ref f5))) (i5 : PySem.W.isFn K (.ref f5) = true)
    (l5 : K.lookup f5 = some ⟨oc5, od5, .func (PySem.W.fnOf "__init__" "Group.__init__" (defArgs s_Group___init__) (defBody s_Group___init__) (defScope s_Group___init__) .none kV5 dc5 pm5 an5 cd5 ct5), sl5⟩) (c5 : PySem.W.codeIn K cd5 "Group.__init__" = true) (k5 : PySem.W.keepIn K (.ref f5) = true)
    (a6 : PySem.W.findIn K (.ref C0) "raised" = some (some (.ref f6))) (i6 : PySem.W.isFn K (.ref f6) = true)
    (l6 : K.lookup f6 = some ⟨oc6, od6, .func (PySem.W.fnOf "raised" "Group.raised" (defArgs s_Group_raised) (defBody s_Group_raised) (defScope s_Group_raised) .none kV6 dc6 pm6 an6 cd6 ct6), sl6⟩) (c6 : PySem.W.codeIn K cd6 "Group.raised" = true) (k6 : PySem.W.keepIn K (.ref f6) = true)
    (a7 : PySem.W.findIn K (.ref C0) "product" = some (some (.ref f7))) (i7 : PySem.W.isFn K (.ref f7) = true)
    (l7 : K.lookup f7 = some ⟨oc7, od7, .func (PySem.W.fnOf "product" "Group.product" (defArgs s_Group_product) (defBody s_Group_product) (defScope s_Group_product) .none kV7 dc7 pm7 an7 cd7 ct7), sl7⟩) (c7 : PySem.W.codeIn K cd7 "Group.product" = true) (k7 : PySem.W.keepIn K (.ref f7) = true)
    (a8 : PySem.W.nsIn K mainGlobals "_kept" = some (some (.ref f8)))
    (l8 : K.lookup f8 = some ⟨oc8, od8, .func (PySem.W.fnOf "_kept" "_kept" (defArgs s__kept) (defBody s__kept) (defScope s__kept) .none kV8 dc8 pm8 an8 cd8 ct8), sl8⟩) (c8 : PySem.W.codeIn K cd8 "_kept" = true) (k8 : PySem.W.keepIn K (.ref f8) = true)
    (a9 : PySem.W.findIn K (.ref C1) "__init__" = some (some (.ref f9))) (i9 : PySem.W.isFn K (.ref f9) = true)
    (l9 : K.lookup f9 = some ⟨oc9, od9, .func (PySem.W.fnOf "__init__" "Statement.__init__" (defArgs s_Statement___init__) (defBody s_Statement___init__) (defScope s_Statement___init__) .none kV9 dc9 pm9 an9 cd9 ct9), sl9⟩) (c9 : PySem.W.codeIn K cd9 "Statement.__init__" = true) (k9 : PySem.W.keepIn K (.ref f9) = true)
    (a10 : PySem.W.findIn K (.ref C1) "__eq__" = some (some (.ref f10))) (i10 : PySem.W.isFn K (.ref f10) = true)
    (l10 : K.lookup f10 = some ⟨oc10, od10, .func (PySem.W.fnOf "__eq__" "Statement.__eq__" (defArgs s_Statement___eq__) (defBody s_Statement___eq__) (defScope s_Statement___eq__) .none kV10 dc10 pm10 an10 cd10 ct10), sl10⟩) (c10 : PySem.W.codeIn K cd10 "Statement.__eq__" = true) (k10 : PySem.W.keepIn K (.ref f10) = true)
    (a11 : PySem.W.nsIn K mainGlobals "_products" = some (some (.ref f11)))
    (l11 : K.lookup f11 = some ⟨oc11, od11, .func (PySem.W.fnOf "_products" "_products" (defArgs s__products) (defBody s__products) (defScope s__products) .none kV11 dc11 pm11 an11 cd11 ct11), sl11⟩) (c11 : PySem.W.codeIn K cd11 "_products" = true) (k11 : PySem.W.keepIn K (.ref f11) = true)
    (a12 : PySem.W.nsIn K mainGlobals "holds" = some (some (.ref f12)))
    (l12 : K.lookup f12 = some ⟨oc12, od12, .func (PySem.W.fnOf "holds" "holds" (defArgs s_holds) (defBody s_holds) (defScope s_holds) .none kV12 dc12 pm12 an12 cd12 ct12), sl12⟩) (c12 : PySem.W.codeIn K cd12 "holds" = true) (k12 : PySem.W.keepIn K (.ref f12) = true)
    (a13 : PySem.W.nsIn K mainGlobals "simulated" = some (some (.ref f13)))
    (l13 : K.lookup f13 = some ⟨oc13, od13, .func (PySem.W.fnOf "simulated" "simulated" (defArgs s_simulated) (defBody s_simulated) (defScope s_simulated) .none kV13 dc13 pm13 an13 cd13 ct13), sl13⟩) (c13 : PySem.W.codeIn K cd13 "simulated" = true) (k13 : PySem.W.keepIn K (.ref f13) = true)
    (a14 : PySem.W.findIn K (.ref C2) "__init__" = some (some (.ref f14))) (i14 : PySem.W.isFn K (.ref f14) = true)
    (l14 : K.lookup f14 = some ⟨oc14, od14, .func (PySem.W.fnOf "__init__" "Claim.__init__" (defArgs s_Claim___init__) (defBody s_Claim___init__) (defScope s_Claim___init__) .none kV14 dc14 pm14 an14 cd14 ct14), sl14⟩) (c14 : PySem.W.codeIn K cd14 "Claim.__init__" = true) (k14 : PySem.W.keepIn K (.ref f14) = true)
    (a15 : PySem.W.findIn K (.ref C2) "__eq__" = some (some (.ref f15))) (i15 : PySem.W.isFn K (.ref f15) = true)
    (l15 : K.lookup f15 = some ⟨oc15, od15, .func (PySem.W.fnOf "__eq__" "Claim.__eq__" (defArgs s_Claim___eq__) (defBody s_Claim___eq__) (defScope s_Claim___eq__) .none kV15 dc15 pm15 an15 cd15 ct15), sl15⟩) (c15 : PySem.W.codeIn K cd15 "Claim.__eq__" = true) (k15 : PySem.W.keepIn K (.ref f15) = true)
    (a16 : PySem.W.nsIn K mainGlobals "_pick_satisfied" = some (some (.ref f16)))
    (l16 : K.lookup f16 = some ⟨oc16, od16, .func (PySem.W.fnOf "_pick_satisfied" "_pick_satisfied" (defArgs s__pick_satisfied) (defBody s__pick_satisfied) (defScope s__pick_satisfied) .none kV16 dc16 pm16 an16 cd16 ct16), sl16⟩) (c16 : PySem.W.codeIn K cd16 "_pick_satisfied" = true) (k16 : PySem.W.keepIn K (.ref f16) = true)
    (a17 : PySem.W.nsIn K mainGlobals "satisfied" = some (some (.ref f17)))
    (l17 : K.lookup f17 = some ⟨oc17, od17, .func (PySem.W.fnOf "satisfied" "satisfied" (defArgs s_satisfied) (defBody s_satisfied) (defScope s_satisfied) .none kV17 dc17 pm17 an17 cd17 ct17), sl17⟩) (c17 : PySem.W.codeIn K cd17 "satisfied" = true) (k17 : PySem.W.keepIn K (.ref f17) = true)
    (a18 : PySem.W.nsIn K mainGlobals "_has_form" = some (some (.ref f18)))
    (l18 : K.lookup f18 = some ⟨oc18, od18, .func (PySem.W.fnOf "_has_form" "_has_form" (defArgs s__has_form) (defBody s__has_form) (defScope s__has_form) .none kV18 dc18 pm18 an18 cd18 ct18), sl18⟩) (c18 : PySem.W.codeIn K cd18 "_has_form" = true) (k18 : PySem.W.keepIn K (.ref f18) = true)
    (a19 : PySem.W.nsIn K mainGlobals "_choice_fits" = some (some (.ref f19)))
    (l19 : K.lookup f19 = some ⟨oc19, od19, .func (PySem.W.fnOf "_choice_fits" "_choice_fits" (defArgs s__choice_fits) (defBody s__choice_fits) (defScope s__choice_fits) .none kV19 dc19 pm19 an19 cd19 ct19), sl19⟩) (c19 : PySem.W.codeIn K cd19 "_choice_fits" = true) (k19 : PySem.W.keepIn K (.ref f19) = true)
    (a20 : PySem.W.nsIn K mainGlobals "fits" = some (some (.ref f20)))
    (l20 : K.lookup f20 = some ⟨oc20, od20, .func (PySem.W.fnOf "fits" "fits" (defArgs s_fits) (defBody s_fits) (defScope s_fits) .none kV20 dc20 pm20 an20 cd20 ct20), sl20⟩) (c20 : PySem.W.codeIn K cd20 "fits" = true) (k20 : PySem.W.keepIn K (.ref f20) = true)
    (a21 : PySem.W.nsIn K mainGlobals "_law_pool" = some (some (.ref f21)))
    (l21 : K.lookup f21 = some ⟨oc21, od21, .func (PySem.W.fnOf "_law_pool" "_law_pool" (defArgs s__law_pool) (defBody s__law_pool) (defScope s__law_pool) .none kV21 dc21 pm21 an21 cd21 ct21), sl21⟩) (c21 : PySem.W.codeIn K cd21 "_law_pool" = true) (k21 : PySem.W.keepIn K (.ref f21) = true)
    (a22 : PySem.W.nsIn K mainGlobals "_law_draw" = some (some (.ref f22)))
    (l22 : K.lookup f22 = some ⟨oc22, od22, .func (PySem.W.fnOf "_law_draw" "_law_draw" (defArgs s__law_draw) (defBody s__law_draw) (defScope s__law_draw) .none kV22 dc22 pm22 an22 cd22 ct22), sl22⟩) (c22 : PySem.W.codeIn K cd22 "_law_draw" = true) (k22 : PySem.W.keepIn K (.ref f22) = true)
    (a23 : PySem.W.nsIn K mainGlobals "_law_same" = some (some (.ref f23)))
    (l23 : K.lookup f23 = some ⟨oc23, od23, .func (PySem.W.fnOf "_law_same" "_law_same" (defArgs s__law_same) (defBody s__law_same) (defScope s__law_same) .none kV23 dc23 pm23 an23 cd23 ct23), sl23⟩) (c23 : PySem.W.codeIn K cd23 "_law_same" = true) (k23 : PySem.W.keepIn K (.ref f23) = true)
    (a24 : PySem.W.nsIn K mainGlobals "_law_power" = some (some (.ref f24)))
    (l24 : K.lookup f24 = some ⟨oc24, od24, .func (PySem.W.fnOf "_law_power" "_law_power" (defArgs s__law_power) (defBody s__law_power) (defScope s__law_power) .none kV24 dc24 pm24 an24 cd24 ct24), sl24⟩) (c24 : PySem.W.codeIn K cd24 "_law_power" = true) (k24 : PySem.W.keepIn K (.ref f24) = true)
    (a25 : PySem.W.nsIn K mainGlobals "_law_raised" = some (some (.ref f25)))
    (l25 : K.lookup f25 = some ⟨oc25, od25, .func (PySem.W.fnOf "_law_raised" "_law_raised" (defArgs s__law_raised) (defBody s__law_raised) (defScope s__law_raised) .none kV25 dc25 pm25 an25 cd25 ct25), sl25⟩) (c25 : PySem.W.codeIn K cd25 "_law_raised" = true) (k25 : PySem.W.keepIn K (.ref f25) = true)
    (a26 : PySem.W.nsIn K mainGlobals "_law_product" = some (some (.ref f26)))
    (l26 : K.lookup f26 = some ⟨oc26, od26, .func (PySem.W.fnOf "_law_product" "_law_product" (defArgs s__law_product) (defBody s__law_product) (defScope s__law_product) .none kV26 dc26 pm26 an26 cd26 ct26), sl26⟩) (c26 : PySem.W.codeIn K cd26 "_law_product" = true) (k26 : PySem.W.keepIn K (.ref f26) = true)
    (a27 : PySem.W.nsIn K mainGlobals "_law_group" = some (some (.ref f27)))
    (l27 : K.lookup f27 = some ⟨oc27, od27, .func (PySem.W.fnOf "_law_group" "_law_group" (defArgs s__law_group) (defBody s__law_group) (defScope s__law_group) .none kV27 dc27 pm27 an27 cd27 ct27), sl27⟩) (c27 : PySem.W.codeIn K cd27 "_law_group" = true) (k27 : PySem.W.keepIn K (.ref f27) = true)
    (a28 : PySem.W.nsIn K mainGlobals "_law_numbers" = some (some (.ref f28)))
    (l28 : K.lookup f28 = some ⟨oc28, od28, .func (PySem.W.fnOf "_law_numbers" "_law_numbers" (defArgs s__law_numbers) (defBody s__law_numbers) (defScope s__law_numbers) .none kV28 dc28 pm28 an28 cd28 ct28), sl28⟩) (c28 : PySem.W.codeIn K cd28 "_law_numbers" = true) (k28 : PySem.W.keepIn K (.ref f28) = true)
    (a29 : PySem.W.nsIn K mainGlobals "_law_statement" = some (some (.ref f29)))
    (l29 : K.lookup f29 = some ⟨oc29, od29, .func (PySem.W.fnOf "_law_statement" "_law_statement" (defArgs s__law_statement) (defBody s__law_statement) (defScope s__law_statement) .none kV29 dc29 pm29 an29 cd29 ct29), sl29⟩) (c29 : PySem.W.codeIn K cd29 "_law_statement" = true) (k29 : PySem.W.keepIn K (.ref f29) = true)
    (a30 : PySem.W.nsIn K mainGlobals "_law_false" = some (some (.ref f30)))
    (l30 : K.lookup f30 = some ⟨oc30, od30, .func (PySem.W.fnOf "_law_false" "_law_false" (defArgs s__law_false) (defBody s__law_false) (defScope s__law_false) .none kV30 dc30 pm30 an30 cd30 ct30), sl30⟩) (c30 : PySem.W.codeIn K cd30 "_law_false" = true) (k30 : PySem.W.keepIn K (.ref f30) = true)
    (a31 : PySem.W.nsIn K mainGlobals "_law_sides" = some (some (.ref f31)))
    (l31 : K.lookup f31 = some ⟨oc31, od31, .func (PySem.W.fnOf "_law_sides" "_law_sides" (defArgs s__law_sides) (defBody s__law_sides) (defScope s__law_sides) .none kV31 dc31 pm31 an31 cd31 ct31), sl31⟩) (c31 : PySem.W.codeIn K cd31 "_law_sides" = true) (k31 : PySem.W.keepIn K (.ref f31) = true)
    (a32 : PySem.W.nsIn K mainGlobals "_law_firsts" = some (some (.ref f32)))
    (l32 : K.lookup f32 = some ⟨oc32, od32, .func (PySem.W.fnOf "_law_firsts" "_law_firsts" (defArgs s__law_firsts) (defBody s__law_firsts) (defScope s__law_firsts) .none kV32 dc32 pm32 an32 cd32 ct32), sl32⟩) (c32 : PySem.W.codeIn K cd32 "_law_firsts" = true) (k32 : PySem.W.keepIn K (.ref f32) = true)
    (a33 : PySem.W.nsIn K mainGlobals "_law_size" = some (some (.ref f33)))
    (l33 : K.lookup f33 = some ⟨oc33, od33, .func (PySem.W.fnOf "_law_size" "_law_size" (defArgs s__law_size) (defBody s__law_size) (defScope s__law_size) .none kV33 dc33 pm33 an33 cd33 ct33), sl33⟩) (c33 : PySem.W.codeIn K cd33 "_law_size" = true) (k33 : PySem.W.keepIn K (.ref f33) = true)
    (a34 : PySem.W.nsIn K mainGlobals "_law_made" = some (some (.ref f34)))
    (l34 : K.lookup f34 = some ⟨oc34, od34, .func (PySem.W.fnOf "_law_made" "_law_made" (defArgs s__law_made) (defBody s__law_made) (defScope s__law_made) .none kV34 dc34 pm34 an34 cd34 ct34), sl34⟩) (c34 : PySem.W.codeIn K cd34 "_law_made" = true) (k34 : PySem.W.keepIn K (.ref f34) = true)
    (a35 : PySem.W.nsIn K mainGlobals "_law_tape" = some (some (.ref f35)))
    (l35 : K.lookup f35 = some ⟨oc35, od35, .func (PySem.W.fnOf "_law_tape" "_law_tape" (defArgs s__law_tape) (defBody s__law_tape) (defScope s__law_tape) .none kV35 dc35 pm35 an35 cd35 ct35), sl35⟩) (c35 : PySem.W.codeIn K cd35 "_law_tape" = true) (k35 : PySem.W.keepIn K (.ref f35) = true)
    (a36 : PySem.W.nsIn K mainGlobals "_law_plays" = some (some (.ref f36)))
    (l36 : K.lookup f36 = some ⟨oc36, od36, .func (PySem.W.fnOf "_law_plays" "_law_plays" (defArgs s__law_plays) (defBody s__law_plays) (defScope s__law_plays) .none kV36 dc36 pm36 an36 cd36 ct36), sl36⟩) (c36 : PySem.W.codeIn K cd36 "_law_plays" = true) (k36 : PySem.W.keepIn K (.ref f36) = true)
    (a37 : PySem.W.nsIn K mainGlobals "_law_claim" = some (some (.ref f37)))
    (l37 : K.lookup f37 = some ⟨oc37, od37, .func (PySem.W.fnOf "_law_claim" "_law_claim" (defArgs s__law_claim) (defBody s__law_claim) (defScope s__law_claim) .none kV37 dc37 pm37 an37 cd37 ct37), sl37⟩) (c37 : PySem.W.codeIn K cd37 "_law_claim" = true) (k37 : PySem.W.keepIn K (.ref f37) = true)
    (a38 : PySem.W.nsIn K mainGlobals "_law_fits" = some (some (.ref f38)))
    (l38 : K.lookup f38 = some ⟨oc38, od38, .func (PySem.W.fnOf "_law_fits" "_law_fits" (defArgs s__law_fits) (defBody s__law_fits) (defScope s__law_fits) .none kV38 dc38 pm38 an38 cd38 ct38), sl38⟩) (c38 : PySem.W.codeIn K cd38 "_law_fits" = true) (k38 : PySem.W.keepIn K (.ref f38) = true)
    (a39 : PySem.W.nsIn K mainGlobals "_law_true" = some (some (.ref f39)))
    (l39 : K.lookup f39 = some ⟨oc39, od39, .func (PySem.W.fnOf "_law_true" "_law_true" (defArgs s__law_true) (defBody s__law_true) (defScope s__law_true) .none kV39 dc39 pm39 an39 cd39 ct39), sl39⟩) (c39 : PySem.W.codeIn K cd39 "_law_true" = true) (k39 : PySem.W.keepIn K (.ref f39) = true)
    (a40 : PySem.W.nsIn K mainGlobals "_law_places" = some (some (.ref f40)))
    (l40 : K.lookup f40 = some ⟨oc40, od40, .func (PySem.W.fnOf "_law_places" "_law_places" (defArgs s__law_places) (defBody s__law_places) (defScope s__law_places) .none kV40 dc40 pm40 an40 cd40 ct40), sl40⟩) (c40 : PySem.W.codeIn K cd40 "_law_places" = true) (k40 : PySem.W.keepIn K (.ref f40) = true)
    (a41 : PySem.W.nsIn K mainGlobals "_law_at" = some (some (.ref f41)))
    (l41 : K.lookup f41 = some ⟨oc41, od41, .func (PySem.W.fnOf "_law_at" "_law_at" (defArgs s__law_at) (defBody s__law_at) (defScope s__law_at) .none kV41 dc41 pm41 an41 cd41 ct41), sl41⟩) (c41 : PySem.W.codeIn K cd41 "_law_at" = true) (k41 : PySem.W.keepIn K (.ref f41) = true)
    (a42 : PySem.W.nsIn K mainGlobals "_law_put" = some (some (.ref f42)))
    (l42 : K.lookup f42 = some ⟨oc42, od42, .func (PySem.W.fnOf "_law_put" "_law_put" (defArgs s__law_put) (defBody s__law_put) (defScope s__law_put) .none kV42 dc42 pm42 an42 cd42 ct42), sl42⟩) (c42 : PySem.W.codeIn K cd42 "_law_put" = true) (k42 : PySem.W.keepIn K (.ref f42) = true)
    (a43 : PySem.W.nsIn K mainGlobals "_law_resized" = some (some (.ref f43)))
    (l43 : K.lookup f43 = some ⟨oc43, od43, .func (PySem.W.fnOf "_law_resized" "_law_resized" (defArgs s__law_resized) (defBody s__law_resized) (defScope s__law_resized) .none kV43 dc43 pm43 an43 cd43 ct43), sl43⟩) (c43 : PySem.W.codeIn K cd43 "_law_resized" = true) (k43 : PySem.W.keepIn K (.ref f43) = true)
    (a44 : PySem.W.nsIn K mainGlobals "_law_any_witness" = some (some (.ref f44)))
    (l44 : K.lookup f44 = some ⟨oc44, od44, .func (PySem.W.fnOf "_law_any_witness" "_law_any_witness" (defArgs s__law_any_witness) (defBody s__law_any_witness) (defScope s__law_any_witness) .none kV44 dc44 pm44 an44 cd44 ct44), sl44⟩) (c44 : PySem.W.codeIn K cd44 "_law_any_witness" = true) (k44 : PySem.W.keepIn K (.ref f44) = true)
    (a45 : PySem.W.nsIn K mainGlobals "_law_less" = some (some (.ref f45)))
    (l45 : K.lookup f45 = some ⟨oc45, od45, .func (PySem.W.fnOf "_law_less" "_law_less" (defArgs s__law_less) (defBody s__law_less) (defScope s__law_less) .none kV45 dc45 pm45 an45 cd45 ct45), sl45⟩) (c45 : PySem.W.codeIn K cd45 "_law_less" = true) (k45 : PySem.W.keepIn K (.ref f45) = true)
    (a46 : PySem.W.nsIn K mainGlobals "_law_spoilt" = some (some (.ref f46)))
    (l46 : K.lookup f46 = some ⟨oc46, od46, .func (PySem.W.fnOf "_law_spoilt" "_law_spoilt" (defArgs s__law_spoilt) (defBody s__law_spoilt) (defScope s__law_spoilt) .none kV46 dc46 pm46 an46 cd46 ct46), sl46⟩) (c46 : PySem.W.codeIn K cd46 "_law_spoilt" = true) (k46 : PySem.W.keepIn K (.ref f46) = true)
    (a47 : PySem.W.nsIn K mainGlobals "law" = some (some (.ref f47)))
    (l47 : K.lookup f47 = some ⟨oc47, od47, .func (PySem.W.fnOf "law" "law" (defArgs s_law) (defBody s_law) (defScope s_law) .none kV47 dc47 pm47 an47 cd47 ct47), sl47⟩) (c47 : PySem.W.codeIn K cd47 "law" = true) (k47 : PySem.W.keepIn K (.ref f47) = true)
    (z_isinstance : PySem.W.nsIn K mainGlobals "isinstance" = some none)
    (z_len : PySem.W.nsIn K mainGlobals "len" = some none)
    (z_sum : PySem.W.nsIn K mainGlobals "sum" = some none)
    (z_max : PySem.W.nsIn K mainGlobals "max" = some none)
    (z_min : PySem.W.nsIn K mainGlobals "min" = some none)
    (z_abs : PySem.W.nsIn K mainGlobals "abs" = some none)
    (z_any : PySem.W.nsIn K mainGlobals "any" = some none)
    (z_all : PySem.W.nsIn K mainGlobals "all" = some none)
    (z_sorted : PySem.W.nsIn K mainGlobals "sorted" = some none)
    (z_int : PySem.W.nsIn K mainGlobals "int" = some none)
    (z_bool : PySem.W.nsIn K mainGlobals "bool" = some none)
    (z_str : PySem.W.nsIn K mainGlobals "str" = some none)
    (z_list : PySem.W.nsIn K mainGlobals "list" = some none)
    (z_tuple : PySem.W.nsIn K mainGlobals "tuple" = some none)
    (z_dict : PySem.W.nsIn K mainGlobals "dict" = some none)
    (z_range : PySem.W.nsIn K mainGlobals "range" = some none)
    (z_enumerate : PySem.W.nsIn K mainGlobals "enumerate" = some none)
    (z_zip : PySem.W.nsIn K mainGlobals "zip" = some none) :
    ∃ fd : FuncData, (∀ (s : Shared) (v : Value), BindsTo s fd ⟨[v], []⟩ [("script", v)]) ∧ ∀ base : Heap, K.In base → base.Ns mainGlobals mg → FnOk l.prog w K mg base CX0 24 fa fd ["script"] (spLaw K) := by
  have e := hfa.symm.trans (PySem.W.mg_of X G a47)
  cases e
  have B : Blt mg := ⟨PySem.W.mg_none_of X G z_isinstance, PySem.W.mg_none_of X G z_len, PySem.W.mg_none_of X G z_sum, PySem.W.mg_none_of X G z_max, PySem.W.mg_none_of X G z_min, PySem.W.mg_none_of X G z_abs, PySem.W.mg_none_of X G z_any, PySem.W.mg_none_of X G z_all, PySem.W.mg_none_of X G z_sorted, PySem.W.mg_none_of X G z_int, PySem.W.mg_none_of X G z_bool, PySem.W.mg_none_of X G z_str, PySem.W.mg_none_of X G z_list, PySem.W.mg_none_of X G z_tuple, PySem.W.mg_none_of X G z_dict, PySem.W.mg_none_of X G z_range, PySem.W.mg_none_of X G z_enumerate, PySem.W.mg_none_of X G z_zip⟩
  have F0 := fun_mk (st := s_power) l0 c0 k0
  have b0 := F0.binds (ps := ["base", "exponent", "modulus"]) fun _ _ _ _ _ _ us hl => match us, hl with | [_, _, _], _ => rfl
  have m0 := PySem.W.mg_of X G a0
  have F1 := fun_mk (st := s_is_prime) l1 c1 k1
  have b1 := F1.binds (ps := ["number"]) fun _ _ _ _ _ _ us hl => match us, hl with | [_], _ => rfl
  have m1 := PySem.W.mg_of X G a1
  have F2 := fun_mk (st := s__is_root) l2 c2 k2
  have b2 := F2.binds (ps := ["p", "q", "number"]) fun _ _ _ _ _ _ us hl => match us, hl with | [_, _, _], _ => rfl
  have m2 := PySem.W.mg_of X G a2
  have F3 := fun_mk (st := s__check_primes) l3 c3 k3
  have b3 := F3.binds (ps := ["p", "q"]) fun _ _ _ _ _ _ us hl => match us, hl with | [_, _], _ => rfl
  have m3 := PySem.W.mg_of X G a3
  have F4 := fun_mk (st := s__check_bases) l4 c4 k4
  have b4 := F4.binds (ps := ["p", "q", "bases"]) fun _ _ _ _ _ _ us hl => match us, hl with | [_, _, _], _ => rfl
  have m4 := PySem.W.mg_of X G a4
  have F5 := fun_mk (st := s_Group___init__) l5 c5 k5
  have b5 := F5.binds (ps := ["self", "p", "q", "bases"]) fun _ _ _ _ _ _ us hl => match us, hl with | [_, _, _, _], _ => rfl
  have F6 := fun_mk (st := s_Group_raised) l6 c6 k6
  have b6 := F6.binds (ps := ["self", "element", "exponent"]) fun _ _ _ _ _ _ us hl => match us, hl with | [_, _, _], _ => rfl
  have F7 := fun_mk (st := s_Group_product) l7 c7 k7
  have b7 := F7.binds (ps := ["self", "pairs"]) fun _ _ _ _ _ _ us hl => match us, hl with | [_, _], _ => rfl
  have F8 := fun_mk (st := s__kept) l8 c8 k8
  have b8 := F8.binds (ps := ["equation"]) fun _ _ _ _ _ _ us hl => match us, hl with | [_], _ => rfl
  have m8 := PySem.W.mg_of X G a8
  have F9 := fun_mk (st := s_Statement___init__) l9 c9 k9
  have b9 := F9.binds (ps := ["self", "unknowns", "equations"]) fun _ _ _ _ _ _ us hl => match us, hl with | [_, _, _], _ => rfl
  have F10 := fun_mk (st := s_Statement___eq__) l10 c10 k10
  have b10 := F10.binds (ps := ["self", "other"]) fun _ _ _ _ _ _ us hl => match us, hl with | [_, _], _ => rfl
  have F11 := fun_mk (st := s__products) l11 c11 k11
  have b11 := F11.binds (ps := ["group", "statement", "exponents"]) fun _ _ _ _ _ _ us hl => match us, hl with | [_, _, _], _ => rfl
  have m11 := PySem.W.mg_of X G a11
  have F12 := fun_mk (st := s_holds) l12 c12 k12
  have b12 := F12.binds (ps := ["group", "statement", "values"]) fun _ _ _ _ _ _ us hl => match us, hl with | [_, _, _], _ => rfl
  have m12 := PySem.W.mg_of X G a12
  have F13 := fun_mk (st := s_simulated) l13 c13 k13
  have b13 := F13.binds (ps := ["group", "statement", "challenge", "replies"]) fun _ _ _ _ _ _ us hl => match us, hl with | [_, _, _, _], _ => rfl
  have m13 := PySem.W.mg_of X G a13
  have F14 := fun_mk (st := s_Claim___init__) l14 c14 k14
  have b14 := F14.binds (ps := ["self", "statement", "choices"]) fun _ _ _ _ _ _ us hl => match us, hl with | [_, _, _], _ => rfl
  have F15 := fun_mk (st := s_Claim___eq__) l15 c15 k15
  have b15 := F15.binds (ps := ["self", "other"]) fun _ _ _ _ _ _ us hl => match us, hl with | [_, _], _ => rfl
  have F16 := fun_mk (st := s__pick_satisfied) l16 c16 k16
  have b16 := F16.binds (ps := ["group", "branches", "pick"]) fun _ _ _ _ _ _ us hl => match us, hl with | [_, _, _], _ => rfl
  have m16 := PySem.W.mg_of X G a16
  have F17 := fun_mk (st := s_satisfied) l17 c17 k17
  have b17 := F17.binds (ps := ["group", "claim", "witness"]) fun _ _ _ _ _ _ us hl => match us, hl with | [_, _, _], _ => rfl
  have m17 := PySem.W.mg_of X G a17
  have F18 := fun_mk (st := s__has_form) l18 c18 k18
  have b18 := F18.binds (ps := ["claim", "first", "replied"]) fun _ _ _ _ _ _ us hl => match us, hl with | [_, _, _], _ => rfl
  have m18 := PySem.W.mg_of X G a18
  have F19 := fun_mk (st := s__choice_fits) l19 c19 k19
  have b19 := F19.binds (ps := ["group", "branches", "moves", "challenge", "pairs"]) fun _ _ _ _ _ _ us hl => match us, hl with | [_, _, _, _, _], _ => rfl
  have m19 := PySem.W.mg_of X G a19
  have F20 := fun_mk (st := s_fits) l20 c20 k20
  have b20 := F20.binds (ps := ["group", "claim", "first", "challenge", "replied"]) fun _ _ _ _ _ _ us hl => match us, hl with | [_, _, _, _, _], _ => rfl
  have m20 := PySem.W.mg_of X G a20
  have F21 := fun_mk (st := s__law_pool) l21 c21 k21
  have b21 := F21.binds (ps := ["script", "budget"]) fun _ _ _ _ _ _ us hl => match us, hl with | [_, _], _ => rfl
  have m21 := PySem.W.mg_of X G a21
  have F22 := fun_mk (st := s__law_draw) l22 c22 k22
  have b22 := F22.binds (ps := ["pool", "size"]) fun _ _ _ _ _ _ us hl => match us, hl with | [_, _], _ => rfl
  have m22 := PySem.W.mg_of X G a22
  have F23 := fun_mk (st := s__law_same) l23 c23 k23
  have b23 := F23.binds (ps := ["actual", "due"]) fun _ _ _ _ _ _ us hl => match us, hl with | [_, _], _ => rfl
  have m23 := PySem.W.mg_of X G a23
  have F24 := fun_mk (st := s__law_power) l24 c24 k24
  have b24 := F24.binds (ps := ["base", "exponent", "modulus"]) fun _ _ _ _ _ _ us hl => match us, hl with | [_, _, _], _ => rfl
  have m24 := PySem.W.mg_of X G a24
  have F25 := fun_mk (st := s__law_raised) l25 c25 k25
  have b25 := F25.binds (ps := ["group", "element", "exponent"]) fun _ _ _ _ _ _ us hl => match us, hl with | [_, _, _], _ => rfl
  have m25 := PySem.W.mg_of X G a25
  have F26 := fun_mk (st := s__law_product) l26 c26 k26
  have b26 := F26.binds (ps := ["group", "pairs"]) fun _ _ _ _ _ _ us hl => match us, hl with | [_, _], _ => rfl
  have m26 := PySem.W.mg_of X G a26
  have F27 := fun_mk (st := s__law_group) l27 c27 k27
  have b27 := F27.binds (ps := ["pool", "count", "least"]) fun _ _ _ _ _ _ us hl => match us, hl with | [_, _, _], _ => rfl
  have m27 := PySem.W.mg_of X G a27
  have F28 := fun_mk (st := s__law_numbers) l28 c28 k28
  have b28 := F28.binds (ps := ["pool", "group", "count"]) fun _ _ _ _ _ _ us hl => match us, hl with | [_, _, _], _ => rfl
  have m28 := PySem.W.mg_of X G a28
  have F29 := fun_mk (st := s__law_statement) l29 c29 k29
  have b29 := F29.binds (ps := ["pool", "group", "values", "most"]) fun _ _ _ _ _ _ us hl => match us, hl with | [_, _, _, _], _ => rfl
  have m29 := PySem.W.mg_of X G a29
  have F30 := fun_mk (st := s__law_false) l30 c30 k30
  have b30 := F30.binds (ps := ["pool", "group", "claim"]) fun _ _ _ _ _ _ us hl => match us, hl with | [_, _, _], _ => rfl
  have m30 := PySem.W.mg_of X G a30
  have F31 := fun_mk (st := s__law_sides) l31 c31 k31
  have b31 := F31.binds (ps := ["group", "statement", "numbers"]) fun _ _ _ _ _ _ us hl => match us, hl with | [_, _, _], _ => rfl
  have m31 := PySem.W.mg_of X G a31
  have F32 := fun_mk (st := s__law_firsts) l32 c32 k32
  have b32 := F32.binds (ps := ["group", "statement", "challenge", "replies"]) fun _ _ _ _ _ _ us hl => match us, hl with | [_, _, _, _], _ => rfl
  have m32 := PySem.W.mg_of X G a32
  have F33 := fun_mk (st := s__law_size) l33 c33 k33
  have b33 := F33.binds (ps := ["claim"]) fun _ _ _ _ _ _ us hl => match us, hl with | [_], _ => rfl
  have m33 := PySem.W.mg_of X G a33
  have F34 := fun_mk (st := s__law_made) l34 c34 k34
  have b34 := F34.binds (ps := ["claim"]) fun _ _ _ _ _ _ us hl => match us, hl with | [_], _ => rfl
  have m34 := PySem.W.mg_of X G a34
  have F35 := fun_mk (st := s__law_tape) l35 c35 k35
  have b35 := F35.binds (ps := ["claim", "numbers"]) fun _ _ _ _ _ _ us hl => match us, hl with | [_, _], _ => rfl
  have m35 := PySem.W.mg_of X G a35
  have F36 := fun_mk (st := s__law_plays) l36 c36 k36
  have b36 := F36.binds (ps := ["group", "claim", "witness", "tape", "challenge"]) fun _ _ _ _ _ _ us hl => match us, hl with | [_, _, _, _, _], _ => rfl
  have m36 := PySem.W.mg_of X G a36
  have F37 := fun_mk (st := s__law_claim) l37 c37 k37
  have b37 := F37.binds (ps := ["pool", "group", "deep"]) fun _ _ _ _ _ _ us hl => match us, hl with | [_, _, _], _ => rfl
  have m37 := PySem.W.mg_of X G a37
  have F38 := fun_mk (st := s__law_fits) l38 c38 k38
  have b38 := F38.binds (ps := ["group", "claim", "first", "challenge", "replied"]) fun _ _ _ _ _ _ us hl => match us, hl with | [_, _, _, _, _], _ => rfl
  have m38 := PySem.W.mg_of X G a38
  have F39 := fun_mk (st := s__law_true) l39 c39 k39
  have b39 := F39.binds (ps := ["group", "claim", "witness"]) fun _ _ _ _ _ _ us hl => match us, hl with | [_, _, _], _ => rfl
  have m39 := PySem.W.mg_of X G a39
  have F40 := fun_mk (st := s__law_places) l40 c40 k40
  have b40 := F40.binds (ps := ["part"]) fun _ _ _ _ _ _ us hl => match us, hl with | [_], _ => rfl
  have m40 := PySem.W.mg_of X G a40
  have F41 := fun_mk (st := s__law_at) l41 c41 k41
  have b41 := F41.binds (ps := ["part", "path"]) fun _ _ _ _ _ _ us hl => match us, hl with | [_, _], _ => rfl
  have m41 := PySem.W.mg_of X G a41
  have F42 := fun_mk (st := s__law_put) l42 c42 k42
  have b42 := F42.binds (ps := ["part", "path", "other"]) fun _ _ _ _ _ _ us hl => match us, hl with | [_, _, _], _ => rfl
  have m42 := PySem.W.mg_of X G a42
  have F43 := fun_mk (st := s__law_resized) l43 c43 k43
  have b43 := F43.binds (ps := ["pool", "part", "reply"]) fun _ _ _ _ _ _ us hl => match us, hl with | [_, _, _], _ => rfl
  have m43 := PySem.W.mg_of X G a43
  have F44 := fun_mk (st := s__law_any_witness) l44 c44 k44
  have b44 := F44.binds (ps := ["pool", "group", "claim"]) fun _ _ _ _ _ _ us hl => match us, hl with | [_, _, _], _ => rfl
  have m44 := PySem.W.mg_of X G a44
  have F45 := fun_mk (st := s__law_less) l45 c45 k45
  have b45 := F45.binds (ps := ["pool", "group", "claim", "witness"]) fun _ _ _ _ _ _ us hl => match us, hl with | [_, _, _, _], _ => rfl
  have m45 := PySem.W.mg_of X G a45
  have F46 := fun_mk (st := s__law_spoilt) l46 c46 k46
  have b46 := F46.binds (ps := ["pool", "group", "part", "way"]) fun _ _ _ _ _ _ us hl => match us, hl with | [_, _, _, _], _ => rfl
  have m46 := PySem.W.mg_of X G a46
  have F47 := fun_mk (st := s_law) l47 c47 k47
  have b47 := F47.binds (ps := ["script"]) fun _ _ _ _ _ _ us hl => match us, hl with | [_], _ => rfl
  have m47 := PySem.W.mg_of X G a47
  refine ⟨PySem.W.fnOf "law" "law" (defArgs s_law) (defBody s_law) (defScope s_law) .none kV47 dc47 pm47 an47 cd47 ct47, fun s v => .of_eq rfl, fun base _ _ => ?_⟩
  have cls_C0 : Cls K C0 := ⟨pg_C0, hd_C0, po_C0, sa_C0⟩
  have cls_C1 : Cls K C1 := ⟨pg_C1, hd_C1, po_C1, sa_C1⟩
  have T0 : GT K C0 := ⟨cls_C0, nP, nQ, nB⟩
  have T1 : ST K C1 := ⟨cls_C1, nU, nE⟩
  have cls_C2 : Cls K C2 := ⟨pg_C2, hd_C2, po_C2, sa_C2⟩
  have T2 : CT K C2 := ⟨cls_C2, nSt, nCh⟩
  have gl : Glb mg := ⟨⟨_, PySem.W.mg_of X G gS⟩, ⟨_, PySem.W.mg_of X G gL⟩, ⟨_, PySem.W.mg_of X G gF⟩, ⟨_, PySem.W.mg_of X G gM⟩⟩
  have I1 : IsiC K C1 := ⟨cls_C1, ha1, hn1, ht1, hm1⟩
  have I2 : IsiC K C2 := ⟨cls_C2, ha2, hn1, ht1, hm2⟩
  have C_power : C8.Cal l.prog w K mg base 1 "power" spPower [] := ⟨⟨_, _, _, [], ok_power F0 , m0, k0, b0, .nil⟩⟩
  have D_power : C8.Cal l.prog w K mg base 1 "power" (toSp K (caOf C0 C1 C2) aspPower) [] := cal_weak sp_power C_power
  have C_is_prime : C8.Cal l.prog w K mg base 1 "is_prime" spIsPrime [] := ⟨⟨_, _, _, [], ok_is_prime F1 , m1, k1, b1, .nil⟩⟩
  have C__is_root : C8.Cal l.prog w K mg base 2 "_is_root" spRoot [] := ⟨⟨_, _, _, [], ok_is_root F2 C_power, m2, k2, b2, .nil⟩⟩
  have C__check_primes : C8.Cal l.prog w K mg base 2 "_check_primes" spCheckPrimes [] := ⟨⟨_, _, _, [], ok_check_primes F3 gl C_is_prime, m3, k3, b3, .nil⟩⟩
  have D_primes : C8.Cal l.prog w K mg base 2 "_check_primes" (toSp K (caOf C0 C1 C2) aspCheckPrimes) [] := cal_weak sp_check_primes C__check_primes
  have C__check_bases : C8.Cal l.prog w K mg base 3 "_check_bases" (spCheckBases K) [] := ⟨⟨_, _, _, [], ok_check_bases F4 gl B C__is_root, m4, k4, b4, .nil⟩⟩
  have D_bases : C8.Cal l.prog w K mg base 3 "_check_bases" (toSp K (caOf C0 C1 C2) aspCheckBases) [] := cal_weak sp_check_bases C__check_bases
  have K_Group : C8.Mak l.prog w K mg base 4 "Group" C0 (toSpI K (caOf C0 C1 C2) 0 aspGroupI) [] := ⟨⟨f5, _, _, [], ⟨mk_C0, a5, i5, kc_C0⟩, ok_group_init F5 T0 B D_primes D_bases, PySem.W.mg_of X G a_C0, b5, .nil⟩⟩
  have M_raised : C8.Met l.prog w K mg base 2 C0 "raised" (toSp K (caOf C0 C1 C2) aspRaised) [] := ⟨⟨f6, _, _, [], cls_C0, ⟨a6, i6, k6⟩, ok_raised F6 T0 D_power, b6, .nil⟩⟩
  have M_product : C8.Met l.prog w K mg base 3 C0 "product" (toSp K (caOf C0 C1 C2) aspProduct) [] := ⟨⟨f7, _, _, [], cls_C0, ⟨a7, i7, k7⟩, ok_product F7 T0 M_raised, b7, .nil⟩⟩
  have C__kept : C8.Cal l.prog w K mg base 1 "_kept" (toSp K (caOf C0 C1 C2) aspKept) [] := ⟨⟨_, _, _, [], ok_kept F8 B, m8, k8, b8, .nil⟩⟩
  have K_Statement : C8.Mak l.prog w K mg base 2 "Statement" C1 (toSpI K (caOf C0 C1 C2) 1 aspStI) [] := ⟨⟨f9, _, _, [], ⟨mk_C1, a9, i9, kc_C1⟩, ok_st_init F9 T1 B C__kept, PySem.W.mg_of X G a_C1, b9, .nil⟩⟩
  have E1 : EqM l.prog w K mg base 1 C1 (toSp K (caOf C0 C1 C2) aspStEq) := ⟨⟨f10, _, _, ok_st_eq F10 T1 I1 (PySem.W.mg_of X G a_C1) B, a10, i10, b10⟩⟩
  have C__products : C8.Cal l.prog w K mg base 4 "_products" (toSp K (caOf C0 C1 C2) aspProducts) [] := ⟨⟨_, _, _, [], ok_products F11 T1 B M_product, m11, k11, b11, .nil⟩⟩
  have C_holds : C8.Cal l.prog w K mg base 5 "holds" (toSp K (caOf C0 C1 C2) aspHolds) [] := ⟨⟨_, _, _, [], ok_holds F12 T1 B C__products, m12, k12, b12, .nil⟩⟩
  have C_simulated : C8.Cal l.prog w K mg base 5 "simulated" (toSp K (caOf C0 C1 C2) aspSim) [] := ⟨⟨_, _, _, [], ok_simulated F13 T1 B C__products M_product, m13, k13, b13, .nil⟩⟩
  have K_Claim : C8.Mak l.prog w K mg base 1 "Claim" C2 (toSpI K (caOf C0 C1 C2) 2 aspClI) [] := ⟨⟨f14, _, _, [], ⟨mk_C2, a14, i14, kc_C2⟩, ok_cl_init F14 T2 B, PySem.W.mg_of X G a_C2, b14, .nil⟩⟩
  have E2 : EqM l.prog w K mg base 10 C2 (toSp K (caOf C0 C1 C2) aspClEqs) := ok_cl_eqs (ca := caOf C0 C1 C2) F15 a15 i15 b15 T2 I2 (PySem.W.mg_of X G a_C2) B E1
  have RB := rec_sat (ca := caOf C0 C1 C2) F16 m16 k16 b16 F17 m17 k17 b17 T2 B C_holds
  have C__has_form : C8.Cal l.prog w K mg base 1 "_has_form" (toSp K (caOf C0 C1 C2) aspForm) [] := ⟨⟨_, _, _, [], ok_has_form F18 T1 T2 B, m18, k18, b18, .nil⟩⟩
  have RI := rec_fits (ca := caOf C0 C1 C2) F19 m19 k19 b19 F20 m20 k20 b20 T0 T2 B C_simulated C__has_form
  have C__law_pool : C8.Cal l.prog w K mg base 1 "_law_pool" (spPool K) [] := ⟨⟨_, _, _, [], ok_law_pool F21 B, m21, k21, b21, .nil⟩⟩
  have C__law_draw : C8.Cal l.prog w K mg base 1 "_law_draw" spDrawP [] := ⟨⟨_, _, _, [], ok_law_drawP F22 B, m22, k22, b22, .nil⟩⟩
  have D_draw : C8.Cal l.prog w K mg base 1 "_law_draw" (toSp K (caOf C0 C1 C2) aspDraw) [] := cal_weak sp_draw C__law_draw
  have C__law_same : C8.Cal l.prog w K mg base 14 "_law_same" (toSp K (caOf C0 C1 C2) (aspSame 14)) [] := ⟨⟨_, _, _, [], ok_law_same F23 B m23 b23 14, m23, k23, b23, .nil⟩⟩
  have C__law_power : C8.Cal l.prog w K mg base 1 "_law_power" spLPower [] := ⟨⟨_, _, _, [], ok_law_power F24 B, m24, k24, b24, .nil⟩⟩
  have D_lpower : C8.Cal l.prog w K mg base 1 "_law_power" (toSp K (caOf C0 C1 C2) aspLPower) [] := cal_weak sp_lpower C__law_power
  have C__law_raised : C8.Cal l.prog w K mg base 2 "_law_raised" (toSp K (caOf C0 C1 C2) aspLRaised) [] := ⟨⟨_, _, _, [], ok_law_raised F25 B D_lpower, m25, k25, b25, .nil⟩⟩
  have C__law_product : C8.Cal l.prog w K mg base 3 "_law_product" (toSp K (caOf C0 C1 C2) aspLProduct) [] := ⟨⟨_, _, _, [], ok_law_product F26 B C__law_raised, m26, k26, b26, .nil⟩⟩
  have C__law_group : C8.Cal l.prog w K mg base 2 "_law_group" (toSp K (caOf C0 C1 C2) aspLGroup) [] := ⟨⟨_, _, _, [], ok_law_group F27 B D_draw D_lpower, m27, k27, b27, .nil⟩⟩
  have C__law_numbers : C8.Cal l.prog w K mg base 2 "_law_numbers" (toSp K (caOf C0 C1 C2) aspLNumbers) [] := ⟨⟨_, _, _, [], ok_law_numbers F28 B D_draw, m28, k28, b28, .nil⟩⟩
  have C__law_statement : C8.Cal l.prog w K mg base 4 "_law_statement" (toSp K (caOf C0 C1 C2) aspLStat) [] := ⟨⟨_, _, _, [], ok_law_statement F29 B D_draw C__law_raised C__law_product, m29, k29, b29, .nil⟩⟩
  have C__law_false : C8.Cal l.prog w K mg base 4 "_law_false" (toSp K (caOf C0 C1 C2) aspLFalse) [] := ⟨⟨_, _, _, [], ok_law_false F30 B D_draw C__law_product, m30, k30, b30, .nil⟩⟩
  have C__law_sides : C8.Cal l.prog w K mg base 4 "_law_sides" (toSp K (caOf C0 C1 C2) aspLSides) [] := ⟨⟨_, _, _, [], ok_law_sides F31 B C__law_product, m31, k31, b31, .nil⟩⟩
  have C__law_firsts : C8.Cal l.prog w K mg base 5 "_law_firsts" (toSp K (caOf C0 C1 C2) aspLFirsts) [] := ⟨⟨_, _, _, [], ok_law_firsts F32 B C__law_product C__law_sides, m32, k32, b32, .nil⟩⟩
  have C__law_at : C8.Cal l.prog w K mg base 1 "_law_at" (toSp K (caOf C0 C1 C2) aspLAt) [] := ⟨⟨_, _, _, [], ok_law_at F41 B, m41, k41, b41, .nil⟩⟩
  have LS := rec_law_size (P := l.prog) (w := w) (base := base) (ca := caOf C0 C1 C2) F33 m33 k33 b33 B
  have LM := cal_made23 (ca := caOf C0 C1 C2) F34 m34 k34 b34 B K_Statement K_Claim
  have LT := rec_law_tape (ca := caOf C0 C1 C2) F35 m35 k35 b35 B LS
  have LP := rec_law_plays (ca := caOf C0 C1 C2) F36 m36 k36 b36 B C__law_firsts
  have LC := cal_cl23 (ca := caOf C0 C1 C2) F37 m37 k37 b37 B D_draw C__law_numbers C__law_statement C__law_false
  have LF := rec_law_fits (ca := caOf C0 C1 C2) F38 m38 k38 b38 B C__law_firsts
  have LU := rec_law_tru (ca := caOf C0 C1 C2) F39 m39 k39 b39 B C__law_sides
  have LO := rec_law_places (P := l.prog) (w := w) (base := base) (ca := caOf C0 C1 C2) F40 m40 k40 b40 B
  have LQ := rec_law_put (P := l.prog) (w := w) (base := base) (ca := caOf C0 C1 C2) F42 m42 k42 b42 B
  have LR := rec_law_resized (ca := caOf C0 C1 C2) F43 m43 k43 b43 B D_draw
  have LA := rec_law_any (ca := caOf C0 C1 C2) F44 m44 k44 b44 B D_draw C__law_numbers
  have LL := rec_law_less (ca := caOf C0 C1 C2) F45 m45 k45 b45 B D_draw LA
  have C__law_spoilt : C8.Cal l.prog w K mg base 22 "_law_spoilt" (toSp K (caOf C0 C1 C2) aspLSpoilt) [] := ⟨⟨_, _, _, [], ok_law_spoilt F46 B D_draw C__law_product (LO 20) C__law_at (LQ 20), m46, k46, b46, .nil⟩⟩
  exact ok_law F47 B T0 T1 T2 E2 C__law_pool D_draw C__law_group C__law_numbers LC LM (LS 3) (LT 3) (LP 3) C__law_same (RB 3).1 (RI 3).1 (LF 3) (LU 3) C__law_spoilt (LR 3) (LL 3) K_Group
theorem walk {l : PySem.W.OpenLaw} {q : Program} {loose : List Str} {XP : (Str → Option Value) → Heap → Prop} {YP : World → Heap → Prop} {d : DefRec} {K : Params → PySem.W.Frag} (hn : l.most = some 63) (hdf : d.params.defaults = [])
    (hY : ∀ (w : World) (h : Heap), YP w h → (K w.params).In h)
    (F : ∀ (w : World) (mg : Str → Option Value) (fa : Addr) (h : Heap), (K w.params).In h → h.Ns mainGlobals mg → mg d.name = some (.ref fa) →
      ∃ fd : FuncData, (∀ (s : Shared) (u : Value), BindsTo s fd ⟨[u], []⟩ [("script", u)]) ∧ ∀ base : Heap, (K w.params).In base → base.Ns mainGlobals mg → FnOk l.prog w (K w.params) mg base CX0 24 fa fd ["script"] (spLaw (K w.params))) :
    PySem.W.WalkO q loose XP YP l.row.toRowW d [] (fun f vs => PySem.call f vs) :=
  L2.walk_of (n := 63) (k := 24) (x := "script") (CX := fun _ => CX0) (sp := fun w => spLaw (K w.params)) hn (by decide) hdf ⟨rfl, by decide, by decide⟩ hY F (fun _ _ a ns hl _ hS => ⟨a, ns, rfl, hS, fun _ => rfl⟩) fun _ _ _ _ _ z => z
end My
open PySem PySem.W PyProof.Rows
set_option maxRecDepth 100000 in
set_option maxHeartbeats 0 in
theorem PySem.Challenge.cw_vouchdoor_k13_replies_that_do_not_fit_holds : PySem.Challenge.rw_vouchdoor_k13_replies_that_do_not_fit.Holds := by
  w_on; o_law; k_head; (case hw => w_witness2)
  k_fill
  refine My.walk (l := PySem.Challenge.rw_vouchdoor_k13_replies_that_do_not_fit) rfl rfl (fun w h Y => PySem.W.kIn_of Y) ?F
  case F =>
    intro w mg fa h KX G hmg
    refine' My.all_mk KX G hmg ?a_C0 ?pg_C0 ?hd_C0 ?po_C0 ?sa_C0 ?mk_C0 ?kc_C0 ?nP ?nQ ?nB ?gS ?gL ?gF ?gM ?a_C1 ?pg_C1 ?hd_C1 ?po_C1 ?sa_C1 ?mk_C1 ?kc_C1 ?nU ?nE ?a_C2 ?pg_C2 ?hd_C2 ?po_C2 ?sa_C2 ?mk_C2 ?kc_C2 ?nSt ?nCh ?ha1 ?hn1 ?ht1 ?hm1 ?ha2 ?hm2 ?a0 ?l0 ?c0 ?k0 ?a1 ?l1 ?c1 ?k1 ?a2 ?l2 ?c2 ?k2 ?a3 ?l3 ?c3 ?k3 ?a4 ?l4 ?c4 ?k4 ?a5 ?i5 ?l5 ?c5 ?k5 ?a6 ?i6 ?l6 ?c6 ?k6 ?a7 ?i7 ?l7 ?c7 ?k7 ?a8 ?l8 ?c8 ?k8 ?a9 ?i9 ?l9 ?c9 ?k9 ?a10 ?i10 ?l10 ?c10 ?k10 ?a11 ?l11 ?c11 ?k11 ?a12 ?l12 ?c12 ?k12 ?a13 ?l13 ?c13 ?k13 ?a14 ?i14 ?l14 ?c14 ?k14 ?a15 ?i15 ?l15 ?c15 ?k15 ?a16 ?l16 ?c16 ?k16 ?a17 ?l17 ?c17 ?k17 ?a18 ?l18 ?c18 ?k18 ?a19 ?l19 ?c19 ?k19 ?a20 ?l20 ?c20 ?k20 ?a21 ?l21 ?c21 ?k21 ?a22 ?l22 ?c22 ?k22 ?a23 ?l23 ?c23 ?k23 ?a24 ?l24 ?c24 ?k24 ?a25 ?l25 ?c25 ?k25 ?a26 ?l26 ?c26 ?k26 ?a27 ?l27 ?c27 ?k27 ?a28 ?l28 ?c28 ?k28 ?a29 ?l29 ?c29 ?k29 ?a30 ?l30 ?c30 ?k30 ?a31 ?l31 ?c31 ?k31 ?a32 ?l32 ?c32 ?k32 ?a33 ?l33 ?c33 ?k33 ?a34 ?l34 ?c34 ?k34 ?a35 ?l35 ?c35 ?k35 ?a36 ?l36 ?c36 ?k36 ?a37 ?l37 ?c37 ?k37 ?a38 ?l38 ?c38 ?k38 ?a39 ?l39 ?c39 ?k39 ?a40 ?l40 ?c40 ?k40 ?a41 ?l41 ?c41 ?k41 ?a42 ?l42 ?c42 ?k42 ?a43 ?l43 ?c43 ?k43 ?a44 ?l44 ?c44 ?k44 ?a45 ?l45 ?c45 ?k45 ?a46 ?l46 ?c46 ?k46 ?a47 ?l47 ?c47 ?k47 ?z_isinstance ?z_len ?z_sum ?z_max ?z_min ?z_abs ?z_any ?z_all ?z_sorted ?z_int ?z_bool ?z_str ?z_list ?z_tuple ?z_dict ?z_range ?z_enumerate ?z_zip
    (case a_C0 => k_is)
    (case pg_C0 => k_is)
    (case hd_C0 => k_is)
    (case po_C0 => k_is)
    (case sa_C0 => k_is)
    (case mk_C0 => k_is)
    (case kc_C0 => k_is)
    (case nP => k_is)
    (case nQ => k_is)
    (case nB => k_is)
    (case gS => k_is)
    (case gL => k_is)
    (case gF => k_is)
    (case gM => k_is)
    (case a_C1 => k_is)
    (case pg_C1 => k_is)
    (case hd_C1 => k_is)
    (case po_C1 => k_is)
    (case sa_C1 => k_is)
    (case mk_C1 => k_is)
    (case kc_C1 => k_is)
    (case nU => k_is)
    (case nE => k_is)
    (case a_C2 => k_is)
    (case pg_C2 => k_is)
    (case hd_C2 => k_is)
    (case po_C2 => k_is)
    (case sa_C2 => k_is)
    (case mk_C2 => k_is)
    (case kc_C2 => k_is)
    (case nSt => k_is)
    (case nCh => k_is)
    (case ha1 => k_is)
    (case hn1 => k_is)
    (case ht1 => k_is)
    (case hm1 => k_is)
    (case ha2 => k_is)
    (case hm2 => k_is)
    (case a0 => k_is)
    (case l0 => k_is)
    (case c0 => k_is)
    (case k0 => k_is)
    (case a1 => k_is)
    (case l1 => k_is)
    (case c1 => k_is)
    (case k1 => k_is)
    (case a2 => k_is)
    (case l2 => k_is)
    (case c2 => k_is)
    (case k2 => k_is)
    (case a3 => k_is)
    (case l3 => k_is)
    (case c3 => k_is)
    (case k3 => k_is)
    (case a4 => k_is)
    (case l4 => k_is)
    (case c4 => k_is)
    (case k4 => k_is)
    (case a5 => k_is)
    (case i5 => k_is)
    (case l5 => k_is)
    (case c5 => k_is)
    (case k5 => k_is)
    (case a6 => k_is)
    (case i6 => k_is)
    (case l6 => k_is)
    (case c6 => k_is)
    (case k6 => k_is)
    (case a7 => k_is)
    (case i7 => k_is)
    (case l7 => k_is)
    (case c7 => k_is)
    (case k7 => k_is)
    (case a8 => k_is)
    (case l8 => k_is)
    (case c8 => k_is)
    (case k8 => k_is)
    (case a9 => k_is)
    (case i9 => k_is)
    (case l9 => k_is)
    (case c9 => k_is)
    (case k9 => k_is)
    (case a10 => k_is)
    (case i10 => k_is)
    (case l10 => k_is)
    (case c10 => k_is)
    (case k10 => k_is)
    (case a11 => k_is)
    (case l11 => k_is)
    (case c11 => k_is)
    (case k11 => k_is)
    (case a12 => k_is)
    (case l12 => k_is)
    (case c12 => k_is)
    (case k12 => k_is)
    (case a13 => k_is)
    (case l13 => k_is)
    (case c13 => k_is)
    (case k13 => k_is)
    (case a14 => k_is)
    (case i14 => k_is)
    (case l14 => k_is)
    (case c14 => k_is)
    (case k14 => k_is)
    (case a15 => k_is)
    (case i15 => k_is)
    (case l15 => k_is)
    (case c15 => k_is)
    (case k15 => k_is)
    (case a16 => k_is)
    (case l16 => k_is)
    (case c16 => k_is)
    (case k16 => k_is)
    (case a17 => k_is)
    (case l17 => k_is)
    (case c17 => k_is)
    (case k17 => k_is)
    (case a18 => k_is)
    (case l18 => k_is)
    (case c18 => k_is)
    (case k18 => k_is)
    (case a19 => k_is)
    (case l19 => k_is)
    (case c19 => k_is)
    (case k19 => k_is)
    (case a20 => k_is)
    (case l20 => k_is)
    (case c20 => k_is)
    (case k20 => k_is)
    (case a21 => k_is)
    (case l21 => k_is)
    (case c21 => k_is)
    (case k21 => k_is)
    (case a22 => k_is)
    (case l22 => k_is)
    (case c22 => k_is)
    (case k22 => k_is)
    (case a23 => k_is)
    (case l23 => k_is)
    (case c23 => k_is)
    (case k23 => k_is)
    (case a24 => k_is)
    (case l24 => k_is)
    (case c24 => k_is)
    (case k24 => k_is)
    (case a25 => k_is)
    (case l25 => k_is)
    (case c25 => k_is)
    (case k25 => k_is)
    (case a26 => k_is)
    (case l26 => k_is)
    (case c26 => k_is)
    (case k26 => k_is)
    (case a27 => k_is)
    (case l27 => k_is)
    (case c27 => k_is)
    (case k27 => k_is)
    (case a28 => k_is)
    (case l28 => k_is)
    (case c28 => k_is)
    (case k28 => k_is)
    (case a29 => k_is)
    (case l29 => k_is)
    (case c29 => k_is)
    (case k29 => k_is)
    (case a30 => k_is)
    (case l30 => k_is)
    (case c30 => k_is)
    (case k30 => k_is)
    (case a31 => k_is)
    (case l31 => k_is)
    (case c31 => k_is)
    (case k31 => k_is)
    (case a32 => k_is)
    (case l32 => k_is)
    (case c32 => k_is)
    (case k32 => k_is)
    (case a33 => k_is)
    (case l33 => k_is)
    (case c33 => k_is)
    (case k33 => k_is)
    (case a34 => k_is)
    (case l34 => k_is)
    (case c34 => k_is)
    (case k34 => k_is)
    (case a35 => k_is)
    (case l35 => k_is)
    (case c35 => k_is)
    (case k35 => k_is)
    (case a36 => k_is)
    (case l36 => k_is)
    (case c36 => k_is)
    (case k36 => k_is)
    (case a37 => k_is)
    (case l37 => k_is)
    (case c37 => k_is)
    (case k37 => k_is)
    (case a38 => k_is)
    (case l38 => k_is)
    (case c38 => k_is)
    (case k38 => k_is)
    (case a39 => k_is)
    (case l39 => k_is)
    (case c39 => k_is)
    (case k39 => k_is)
    (case a40 => k_is)
    (case l40 => k_is)
    (case c40 => k_is)
    (case k40 => k_is)
    (case a41 => k_is)
    (case l41 => k_is)
    (case c41 => k_is)
    (case k41 => k_is)
    (case a42 => k_is)
    (case l42 => k_is)
    (case c42 => k_is)
    (case k42 => k_is)
    (case a43 => k_is)
    (case l43 => k_is)
    (case c43 => k_is)
    (case k43 => k_is)
    (case a44 => k_is)
    (case l44 => k_is)
    (case c44 => k_is)
    (case k44 => k_is)
    (case a45 => k_is)
    (case l45 => k_is)
    (case c45 => k_is)
    (case k45 => k_is)
    (case a46 => k_is)
    (case l46 => k_is)
    (case c46 => k_is)
    (case k46 => k_is)
    (case a47 => k_is)
    (case l47 => k_is)
    (case c47 => k_is)
    (case k47 => k_is)
    (case z_isinstance => k_is)
    (case z_len => k_is)
    (case z_sum => k_is)
    (case z_max => k_is)
    (case z_min => k_is)
    (case z_abs => k_is)
    (case z_any => k_is)
    (case z_all => k_is)
    (case z_sorted => k_is)
    (case z_int => k_is)
    (case z_bool => k_is)
    (case z_str => k_is)
    (case z_list => k_is)
    (case z_tuple => k_is)
    (case z_dict => k_is)
    (case z_range => k_is)
    (case z_enumerate => k_is)
    (case z_zip => k_is)

